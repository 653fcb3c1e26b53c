"""Tables: lists of rows that are as long, their columns, products and order."""

from trueline.errors import Unfit
from trueline.numbers import is_measure, two_to
from trueline.reckon import joined, rounded
from trueline.truth import true_dot

# A row's numbers, and a table's rows, are as many at most.
MOST_NUMBERS = 60
MOST_COLUMNS = 6


def is_list_of_some(thing):
    return isinstance(thing, list) and 1 <= len(thing) <= MOST_NUMBERS


def is_row(thing, width):
    return is_list_of_some(thing) and all([is_measure(number, width) for number in thing])


def is_table(thing, width):
    if not is_list_of_some(thing):
        return False
    if not all([is_row(row, width) for row in thing]):
        return False
    columns = len(thing[0])
    return columns <= MOST_COLUMNS and all([len(row) == columns for row in thing])


def column(table, place):
    return [row[place] for row in table]


def turned(table):
    return [column(table, place) for place in range(len(table[0]))]


def one_by_one(rows):
    told = []
    for row in rows:
        told.extend(row)
    return told


def least_power(numbers):
    return min([number[1] for number in numbers])


# Counted in steps of two to one power, that isn't above any of theirs, numbers
# are whole: so they are compared and reckoned with as whole numbers alone.
def in_steps(numbers, power):
    return [number[0] * two_to(number[1] - power) for number in numbers]


def rows_in_steps(rows, power):
    return [in_steps(row, power) for row in rows]


def product(table, other, width):
    if len(table[0]) != len(other):
        raise Unfit("the one table has not as many columns as the other has rows")
    columns = turned(other)
    return [true_dots(row, columns, width) for row in table]


def true_dots(row, columns, width):
    return [true_dot(row, other, width) for other in columns]


def least_place(table):
    numbers = one_by_one(table)
    steps = in_steps(numbers, least_power(numbers))
    return divmod(steps.index(min(steps)), len(table[0]))


# The place stands behind the size, so that it decides among equal ones.
def rising(row):
    steps = in_steps(row, least_power(row))
    pairs = sorted([(pair[1], pair[0]) for pair in enumerate(steps)])
    return [pair[1] for pair in pairs]


def ordered(table, place):
    return [list(table[at]) for at in rising(column(table, place))]


def middle(row, width):
    places = rising(row)
    one = row[places[(len(row) - 1) // 2]]
    other = row[places[len(row) // 2]]
    both = joined(one, other)
    return rounded((both[0], both[1] - 1), width)
