"""Ratios: tuples (top, under) of whole numbers in lowest terms, under above 0."""

from trueline.errors import NoRatio


# Python counts True and False among its whole numbers; the program doesn't.
def is_whole(thing):
    return isinstance(thing, int) and not isinstance(thing, bool)


def is_pair_of_wholes(thing):
    if not isinstance(thing, tuple) or len(thing) != 2:
        return False
    return is_whole(thing[0]) and is_whole(thing[1])


def common_divisor(one, other):
    greater = abs(one)
    lesser = abs(other)
    while lesser > 0:
        left = greater % lesser
        greater = lesser
        lesser = left
    return greater


def is_ratio(thing):
    if not is_pair_of_wholes(thing):
        return False
    return thing[1] > 0 and common_divisor(thing[0], thing[1]) == 1


def ratio(top, under):
    if under == 0:
        raise NoRatio("nothing can be divided by nought")
    divisor = common_divisor(top, under)
    # The sign goes above, so that each ratio has one form.
    if under < 0:
        divisor = -divisor
    return (top // divisor, under // divisor)


def plus(one, other):
    return ratio(one[0] * other[1] + other[0] * one[1], one[1] * other[1])


def minus(one, other):
    return ratio(one[0] * other[1] - other[0] * one[1], one[1] * other[1])


def times(one, other):
    return ratio(one[0] * other[0], one[1] * other[1])


def over(one, other):
    return ratio(one[0] * other[1], one[1] * other[0])


def order_of(one, other):
    left = one[0] * other[1]
    right = other[0] * one[1]
    if left < right:
        return -1
    return 1 if left > right else 0
