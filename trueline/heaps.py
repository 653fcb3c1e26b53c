"""Rows of numbers that keep a sum whole: lesser ones ahead, none reaching into another."""

from trueline.reckon import sum_rest


# The size is below two to the later one's power just if all digits of the
# earlier one's whole find room below that power.
def ends_below(earlier, later):
    return earlier[0].bit_length() + earlier[1] <= later[1]


# Neighbours tell it of all: two to a number's power isn't above its size, so
# what is below the one is below all powers behind it.
def is_apart(row):
    numbers = [number for number in row if number[0] != 0]
    return all([ends_below(pair[0], pair[1]) for pair in zip(numbers, numbers[1:])])


def grown(row, number, width):
    told = []
    carried = number
    for part in row:
        pair = sum_rest(carried, part, width)
        told.append(pair[1])
        carried = pair[0]
    told.append(carried)
    return told


def kept_whole(row, width):
    told = []
    for number in row:
        told = grown(told, number, width)
    return told


def sign_of(row):
    for number in reversed(row):
        if number[0] != 0:
            return 1 if number[0] > 0 else -1
    return 0
