"""Reckoning with numbers of a width: the nearest answers, and what they leave.

What is exact goes as a pair (whole, power) here, like a number, but its whole
may be even and as long as need be.
"""

from trueline.errors import NoRoot
from trueline.numbers import near, odd_form, opposite, two_to
from trueline.ratios import ratio


# Nought has but one form, whatever power it is multiplied by.
def shifted(number, more):
    if number[0] == 0:
        return (0, 0)
    return (number[0], number[1] + more)


# A power of two moves all numbers of a width alike, so it is set aside.
def rounded(pair, width):
    return shifted(near((pair[0], 1), width), pair[1])


def joined(one, other):
    power = min(one[1], other[1])
    whole = one[0] * two_to(one[1] - power) + other[0] * two_to(other[1] - power)
    return (whole, power)


def crossed(one, other):
    return (one[0] * other[0], one[1] + other[1])


def one_form(pair):
    if pair[0] == 0:
        return (0, 0)
    return odd_form(pair[0], pair[1])


def with_rest(pair, width):
    told = rounded(pair, width)
    return (told, one_form(joined(pair, opposite(told))))


def added(one, other, width):
    return rounded(joined(one, other), width)


def taken(one, other, width):
    return added(one, opposite(other), width)


def multiplied(one, other, width):
    return rounded(crossed(one, other), width)


def divided(one, other, width):
    return shifted(near(ratio(one[0], other[0]), width), one[1] - other[1])


# The greatest whole number whose square isn't above a whole number above 0:
# from a power of two above it, each step goes down until none does.
def whole_root(square):
    told = two_to((square.bit_length() + 1) // 2)
    less = (told + square // told) // 2
    while less < told:
        told = less
        less = (told + square // told) // 2
    return told


# How many binary digits to move a ratio's root by, so that its whole part has
# two digits more than the width, or three.
def root_shift(given, width):
    return (2 * width + 4 - given[0].bit_length() + given[1].bit_length()) // 2


def root(given, width):
    if given[0] < 0:
        raise NoRoot("nothing below nought has a square root")
    if given[0] == 0:
        return (0, 0)
    shift = root_shift(given, width)
    top = given[0] * two_to(max(2 * shift, 0))
    under = given[1] * two_to(max(-2 * shift, 0))
    whole = whole_root(top // under)
    # All numbers of the width, and all points in the midst of two, are wholes
    # at this place: so any rest at all is as good as a half.
    half = 0 if whole * whole * under == top else 1
    return rounded((2 * whole + half, -shift - 1), width)


def sum_rest(one, other, width):
    return with_rest(joined(one, other), width)


def product_rest(one, other, width):
    return with_rest(crossed(one, other), width)


def rest_by_steps(one, other, width):
    whole = added(one, other, width)
    first = taken(whole, other, width)
    second = taken(whole, first, width)
    return added(taken(one, first, width), taken(other, second, width), width)


# The width isn't needed: the first is off by half a step of its last digit at
# most, so what is left of a number of the width can't be greater than promised.
def halves(number, width, few):
    return with_rest(number, few)
