"""Numbers of a width: tuples (whole, power), the whole odd, or (0, 0) for nought."""

from trueline.errors import NoNext
from trueline.ratios import is_pair_of_wholes, is_whole

LEAST_WIDTH = 8
GREATEST_WIDTH = 64

# A measure but nought lies from 2 ** -60 to 2 ** 60 in size.
MEASURE_POWER = 60

# How much a cut leaves, against one step of the last digit.
NONE_LEFT = 0
BELOW_HALF = 1
HALF_LEFT = 2
ABOVE_HALF = 3


# By squaring, since powers reach some thousands.
def two_to(count):
    told = 1
    factor = 2
    left = count
    while left > 0:
        if left % 2 == 1:
            told = told * factor
        factor = factor * factor
        left = left // 2
    return told


def is_width(thing):
    return is_whole(thing) and LEAST_WIDTH <= thing <= GREATEST_WIDTH


def is_number(thing, width):
    if not is_pair_of_wholes(thing):
        return False
    if thing == (0, 0):
        return True
    return thing[0] % 2 == 1 and thing[0].bit_length() <= width


# By the place of the first digit alone: the power may be any whole number,
# and two to it may be too great to be reckoned.
def is_measure(thing, width):
    if not is_number(thing, width):
        return False
    if thing[0] == 0:
        return True
    first = thing[0].bit_length() - 1 + thing[1]
    if first == MEASURE_POWER:
        return abs(thing[0]) == 1
    return -MEASURE_POWER <= first < MEASURE_POWER


# The whole is odd or nought (with the power 0), so both are in lowest terms.
def value(number):
    if number[1] < 0:
        return (number[0], two_to(-number[1]))
    return (number[0] * two_to(number[1]), 1)


def odd_form(whole, power):
    while whole % 2 == 0:
        whole = whole // 2
        power = power + 1
    return (whole, power)


def left_of(rest, under):
    if rest == 0:
        return NONE_LEFT
    if 2 * rest == under:
        return HALF_LEFT
    return BELOW_HALF if 2 * rest < under else ABOVE_HALF


# Tells (whole, power, left): the whole has just as many digits as the width,
# and with what is left, less than one step of its last digit, it is top / under.
def cut(top, under, width):
    power = top.bit_length() - under.bit_length() - width
    if power < 0:
        top = top * two_to(-power)
    else:
        under = under * two_to(power)
    # The lengths tell the first digit's place but for one.
    if top // under >= two_to(width):
        under = under * 2
        power = power + 1
    return (top // under, power, left_of(top % under, under))


# The number that a cut tells, or the next one in size, with its sign.
def from_cut(part, goes_up, is_below):
    size = part[0] + 1 if goes_up else part[0]
    return odd_form(-size if is_below else size, part[1])


def near(given, width):
    if given[0] == 0:
        return (0, 0)
    part = cut(abs(given[0]), given[1], width)
    is_odd_midst = part[2] == HALF_LEFT and part[0] % 2 == 1
    return from_cut(part, part[2] == ABOVE_HALF or is_odd_midst, given[0] < 0)


def lower(given, width):
    if given[0] == 0:
        return (0, 0)
    part = cut(abs(given[0]), given[1], width)
    is_below = given[0] < 0
    # Below nought the lower number is the greater in size.
    return from_cut(part, is_below and part[2] != NONE_LEFT, is_below)


def upper(given, width):
    return opposite(lower((-given[0], given[1]), width))


def farther(size, power, width):
    more = width - size.bit_length()
    return odd_form(size * two_to(more) + 1, power - more)


def nearer(size, power, width):
    more = width - size.bit_length()
    # Below a power of two (its odd whole is 1) the steps are half as wide.
    if size == 1:
        more = more + 1
    return odd_form(size * two_to(more) - 1, power - more)


def next_up(number, width):
    if number[0] == 0:
        raise NoNext("no number is next to nought")
    if number[0] > 0:
        return farther(number[0], number[1], width)
    return opposite(nearer(-number[0], number[1], width))


def next_down(number, width):
    return opposite(next_up(opposite(number), width))


def opposite(number):
    return (-number[0], number[1])
