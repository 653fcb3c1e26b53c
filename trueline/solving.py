"""Equations: determinants and exact solutions, or the weights by which the lists hang together."""

from trueline.errors import Dependent
from trueline.numbers import value
from trueline.ratios import common_divisor, ratio
from trueline.reckon import one_form
from trueline.tables import in_steps, least_power, one_by_one, rows_in_steps


def without(rows, place):
    return [row[:place] + row[place + 1:] for row in rows]


# By the first list's numbers, each times the determinant of what is left
# without its list and its place, the signs in turn.
def whole_determinant(rows):
    if len(rows) == 1:
        return rows[0][0]
    total = 0
    sign = 1
    for pair in enumerate(rows[0]):
        total = total + sign * pair[1] * whole_determinant(without(rows[1:], pair[0]))
        sign = -sign
    return total


def determinant(rows):
    power = least_power(one_by_one(rows))
    whole = whole_determinant(rows_in_steps(rows, power))
    # One step of the power in each of the lists.
    return value(one_form((whole, len(rows) * power)))


def first_not_nought(row):
    place = 0
    while row[place] == 0:
        place = place + 1
    return place


# What is told is nought where the base has its first number that isn't.
def cleared(row, base):
    place = first_not_nought(base)
    return [base[place] * pair[0] - row[place] * pair[1] for pair in zip(row, base)]


def in_lowest_terms(weights):
    divisor = 0
    for weight in weights:
        divisor = common_divisor(divisor, weight)
    if weights[first_not_nought(weights)] < 0:
        divisor = -divisor
    return [weight // divisor for weight in weights]


# The list at a place, and behind its numbers a weight for each of the lists.
def weighted(rows, place):
    return rows[place] + [1 if other == place else 0 for other in range(len(rows))]


# A list's own weight stays other than 0 when it is cleared. So once its numbers
# are all nought, the first thing in it that isn't is one of the weights.
def weights_to_nought(rows):
    bases = []
    for place in range(len(rows)):
        row = weighted(rows, place)
        for base in bases:
            row = cleared(row, base)
        if first_not_nought(row) >= len(rows):
            return in_lowest_terms(row[len(rows):])
        bases.append(row)


def put_in(rows, place, right):
    return [pair[0][:place] + [pair[1]] + pair[0][place + 1:] for pair in zip(rows, right)]


def solved_in_wholes(rows, right):
    whole = whole_determinant(rows)
    if whole == 0:
        raise Dependent("the lists hang on one another", weights_to_nought(rows))
    return [ratio(whole_determinant(put_in(rows, place, right)), whole) for place in range(len(rows))]


def solved(rows, right):
    power = least_power(one_by_one(rows) + right)
    return solved_in_wholes(rows_in_steps(rows, power), in_steps(right, power))
