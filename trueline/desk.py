"""The desk: rows of text, each with its answer."""

from trueline.decimals import read_measure
from trueline.deskrows import things_behind, words_of
from trueline.errors import BadRow, BadText, Dependent, NoColumn, NoLine, NoRow, TooGreat, TooMany, Unfit
from trueline.fits import fitted, line_of
from trueline.numbers import near, value
from trueline.quick import quick_sum
from trueline.tables import MOST_NUMBERS, column, least_place, middle, ordered
from trueline.truth import true_deviation, true_dot, true_mean, true_spread, true_sum
from trueline.writing import briefest, written

OK = "ok"


class Desk:
    def __init__(self):
        self.width = 53
        self.digits = 17
        self.table = []


def check_row(desk, count):
    if count > len(desk.table):
        raise NoRow("the table has no such row")


# A table that has rows at all has a first one.
def check_columns(desk, counts):
    check_row(desk, 1)
    if max(counts) > len(desk.table[0]):
        raise NoColumn("the table has no such column")


def column_at(desk, count):
    check_columns(desk, [count])
    return column(desk.table, count - 1)


def both_columns(desk, counts):
    return [column_at(desk, count) for count in counts]


def all_written(desk, numbers):
    return " ".join([written(value(number), desk.digits) for number in numbers])


def nearest_written(desk, parts):
    return all_written(desk, [near(part, desk.width) for part in parts])


# The numbers of another width need not be numbers of the new one.
def set_width(desk, counts):
    desk.width = counts[0]
    desk.table = []
    return OK


def set_digits(desk, counts):
    desk.digits = counts[0]
    return OK


def add_row(desk, texts):
    row = [read_measure(text, desk.width) for text in texts]
    if len(desk.table) > 0 and len(desk.table[0]) != len(row):
        raise Unfit("the rows there are have another count of numbers")
    if len(desk.table) >= MOST_NUMBERS:
        raise TooMany("the table has as many rows as it may")
    desk.table.append(row)
    return str(len(desk.table))


def drop_row(desk, counts):
    check_row(desk, counts[0])
    desk.table.pop(counts[0] - 1)
    return OK


def order_rows(desk, counts):
    check_columns(desk, counts)
    desk.table = ordered(desk.table, counts[0] - 1)
    return OK


def tell_sum(desk, counts):
    return all_written(desk, [true_sum(column_at(desk, counts[0]), desk.width)])


def tell_mean(desk, counts):
    return all_written(desk, [true_mean(column_at(desk, counts[0]), desk.width)])


def tell_spread(desk, counts):
    return all_written(desk, [true_spread(column_at(desk, counts[0]), desk.width)])


def tell_root(desk, counts):
    return all_written(desk, [true_deviation(column_at(desk, counts[0]), desk.width)])


def tell_middle(desk, counts):
    return all_written(desk, [middle(column_at(desk, counts[0]), desk.width)])


def tell_quick(desk, counts):
    return all_written(desk, quick_sum(column_at(desk, counts[0]), desk.width))


def tell_dot(desk, counts):
    columns = both_columns(desk, counts)
    return all_written(desk, [true_dot(columns[0], columns[1], desk.width)])


def tell_line(desk, counts):
    columns = both_columns(desk, counts)
    return nearest_written(desk, line_of(columns[0], columns[1]))


def tell_fit(desk, counts):
    check_columns(desk, counts)
    places = [count - 1 for count in counts[1:]]
    return nearest_written(desk, fitted(desk.table, places, counts[0] - 1))


def tell_least(desk, counts):
    check_row(desk, 1)
    return " ".join([str(place + 1) for place in least_place(desk.table)])


def show_row(desk, counts):
    check_row(desk, counts[0])
    return " ".join([briefest(number, desk.width) for number in desk.table[counts[0] - 1]])


def tell_brief(desk, texts):
    return briefest(read_measure(texts[0], desk.width), desk.width)


DEEDS = {
    "width": set_width,
    "digits": set_digits,
    "row": add_row,
    "drop": drop_row,
    "order": order_rows,
    "sum": tell_sum,
    "mean": tell_mean,
    "spread": tell_spread,
    "root": tell_root,
    "middle": tell_middle,
    "quick": tell_quick,
    "dot": tell_dot,
    "line": tell_line,
    "fit": tell_fit,
    "least": tell_least,
    "show": show_row,
    "brief": tell_brief,
}


# What a row stands with is checked first of all, ahead of what the table has.
def done(desk, words):
    things = things_behind(words)
    deed = DEEDS[words[0]]
    return deed(desk, things)


def weights_told(weights):
    return " ".join(["refused: Dependent"] + [str(weight) for weight in weights])


def answer(desk, words):
    try:
        return done(desk, words)
    except BadRow:
        return "refused: BadRow"
    except BadText:
        return "refused: BadText"
    except TooGreat:
        return "refused: TooGreat"
    except Unfit:
        return "refused: Unfit"
    except TooMany:
        return "refused: TooMany"
    except NoRow:
        return "refused: NoRow"
    except NoColumn:
        return "refused: NoColumn"
    except NoLine:
        return "refused: NoLine"
    except Dependent as refusal:
        return weights_told(refusal.weights)


def play(text):
    desk = Desk()
    answers = []
    for row in text.split("\n"):
        words = words_of(row)
        if len(words) > 0:
            answers.append(answer(desk, words))
    return answers
