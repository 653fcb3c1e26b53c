"""Decimal texts of ratios, with so many figures as are asked for, and of numbers, with as few as tell them."""

from trueline.numbers import ABOVE_HALF, HALF_LEFT, NONE_LEFT, left_of, near, value


# By squaring, since powers reach some hundreds.
def ten_to(count):
    told = 1
    factor = 10
    left = count
    while left > 0:
        if left % 2 == 1:
            told = told * factor
        factor = factor * factor
        left = left // 2
    return told


# What is told need not be in lowest terms, here and below: it is only compared,
# divided and rounded.
def times_ten_to(pair, power):
    if power < 0:
        return (pair[0], pair[1] * ten_to(-power))
    return (pair[0] * ten_to(power), pair[1])


def reaches(size, power):
    moved = times_ten_to(size, -power)
    return moved[0] >= moved[1]


# The power of ten of the first figure. The lengths tell it but for a step or
# two, a binary digit being some 0.30103 of a decimal one.
def first_power(size):
    power = (size[0].bit_length() - size[1].bit_length()) * 30103 // 100000
    while not reaches(size, power):
        power = power - 1
    while reaches(size, power + 1):
        power = power + 1
    return power


# The two wholes of so many figures around a size, the one to be chosen ahead,
# or the only one that is the size itself. An odd whole gives way in the midst,
# so of 9 and the 1 of the next power, here 10, the 1 is chosen.
def wholes_around(size, power, digits):
    moved = times_ten_to(size, digits - 1 - power)
    whole = moved[0] // moved[1]
    left = left_of(moved[0] % moved[1], moved[1])
    if left == NONE_LEFT:
        return [whole]
    if left == ABOVE_HALF or (left == HALF_LEFT and whole % 2 == 1):
        return [whole + 1, whole]
    return [whole, whole + 1]


def spelled(whole, power, digits, is_below):
    figures = str(whole)
    # Nines that were carried over are one figure more, a nought.
    if len(figures) > digits:
        power = power + 1
    sign = "-" if is_below else ""
    first = figures[0]
    point = "." if digits > 1 else ""
    others = figures[1:digits]
    return f"{sign}{first}{point}{others}e{power}"


def written(given, digits):
    if given[0] == 0:
        return "0"
    size = (abs(given[0]), given[1])
    power = first_power(size)
    return spelled(wholes_around(size, power, digits)[0], power, digits, given[0] < 0)


def is_read_as(whole, power, number, width):
    return near(times_ten_to((whole, 1), power), width) == number


# Those beyond the two around the number are further off on the same side. Both
# are asked, since below a power of two what is read as it ends sooner.
def read_as(number, width, power, digits):
    wholes = wholes_around(value(number), power, digits)
    return [whole for whole in wholes if is_read_as(whole, power - digits + 1, number, width)]


def briefest(number, width):
    if number[0] == 0:
        return "0"
    size = (abs(number[0]), number[1])
    power = first_power(value(size))
    digits = 1
    wholes = read_as(size, width, power, digits)
    while len(wholes) == 0:
        digits = digits + 1
        wholes = read_as(size, width, power, digits)
    return spelled(wholes[0], power, digits, number[0] < 0)
