"""Decimal texts, read exactly and as measures."""

from trueline.errors import BadText, TooGreat
from trueline.numbers import is_measure, near
from trueline.ratios import ratio

FIGURES = "0123456789"
MOST_FIGURES = 40
MOST_POWER_FIGURES = 3


def behind_sign(text, at, sign):
    return at + 1 if text[at:at + 1] == sign else at


def behind_figures(text, at, most):
    end = at
    while end < len(text) and end - at < most and text[end] in FIGURES:
        end = end + 1
    return end


# Tells (power, where it ends); with no power at that place it is 0.
def power_at(text, at):
    if text[at:at + 1] != "e":
        return (0, at)
    first = behind_sign(text, at + 1, "-")
    end = behind_figures(text, first, MOST_POWER_FIGURES)
    if end == first:
        raise BadText("the power of ten has no figures", end)
    return (int(text[at + 1:end]), end)


# The power of ten is put as noughts: with 40 figures and a power of 3 figures
# they stay far below as many as Python reads.
def times_ten(whole, power):
    ten = int("1" + "0" * abs(power))
    return ratio(whole, ten) if power < 0 else ratio(whole * ten, 1)


# Each sign that is passed over keeps to what writes a number. So wherever the
# reading stops, at the end or not, all ahead of that place begins such a text.
def read_text(text):
    start = behind_sign(text, 0, "-")
    point = behind_figures(text, start, MOST_FIGURES)
    behind = behind_sign(text, point, ".")
    end = behind_figures(text, behind, MOST_FIGURES - (point - start))
    if start == point and behind == end:
        raise BadText("there are no figures", end)
    power = power_at(text, end)
    if power[1] < len(text):
        raise BadText("a sign that has no place there", power[1])
    whole = int(text[:point] + text[behind:end])
    return times_ten(whole, power[0] - (end - behind))


def read_measure(text, width):
    number = near(read_text(text), width)
    if not is_measure(number, width):
        raise TooGreat("too great or too little for a measure")
    return number
