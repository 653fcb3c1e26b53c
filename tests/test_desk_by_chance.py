"""[110]: the desk against another one, slow and plain, that goes by exact fractions and by comparing alone."""

import random
import re
import unittest
from fractions import Fraction

from helper import asked, briefest_text, exact, nearest, nearest_root, nearest_text, read_exactly
from trueline.desk import play

WIDTHS_OF_DESKS = (8, 9, 31, 53, 64)
COUNT = re.compile("[1-9][0-9]{0,2}")
ONE_COUNT = ("width", "digits", "drop", "order", "sum", "mean", "spread", "root", "middle", "quick", "show")


class Refusal(Exception):
    pass


def measure_of(text, width):
    fraction = read_exactly(text)
    if fraction is None:
        raise Refusal("BadText")
    fraction = exact(nearest(fraction, width))
    if fraction != 0 and not Fraction(1, 2 ** 60) <= abs(fraction) <= 2 ** 60:
        raise Refusal("TooGreat")
    return fraction


def solution_of(lists, right):
    """Of as many equations with fractions, or None if there are none or several."""
    rows = [list(row) + [number] for row, number in zip(lists, right)]
    for place in range(len(rows)):
        pivots = [row for row in rows[place:] if row[place] != 0]
        if not pivots:
            return None
        rows.remove(pivots[0])
        rows.insert(place, [number / pivots[0][place] for number in pivots[0]])
        base = rows[place]
        for at, row in enumerate(rows):
            if at != place:
                rows[at] = [number - row[place] * part for number, part in zip(row, base)]
    return [row[-1] for row in rows]


def fit_of(places, target):
    """Offset and factors by which the target is missed least, or None if there are several."""
    columns = [[Fraction(1)] * len(target)] + places
    lists = [[sum(one * two for one, two in zip(row, other)) for other in columns] for row in columns]
    return solution_of(lists, [sum(one * two for one, two in zip(row, target)) for row in columns])


class PlainDesk:
    def __init__(self):
        self.width, self.digits, self.rows = 53, 17, []

    def counts(self, words, least, greatest):
        if not least <= len(words) <= greatest or any(COUNT.fullmatch(word) is None for word in words):
            raise Refusal("BadRow")
        return [int(word) for word in words]

    def columns(self, counts):
        if not self.rows:
            raise Refusal("NoRow")
        if max(counts) > len(self.rows[0]):
            raise Refusal("NoColumn")
        return [[row[count - 1] for row in self.rows] for count in counts]

    def row_at(self, count):
        if count > len(self.rows):
            raise Refusal("NoRow")
        return self.rows[count - 1]

    def texts(self, fractions):
        return " ".join(nearest_text(exact(nearest(fraction, self.width)), self.digits) for fraction in fractions)

    def answer(self, words):
        try:
            return self.answer_of(words[0], words[1:])
        except Refusal as refusal:
            return f"refused: {refusal}"

    def answer_of(self, word, rest):
        if word in ("row", "brief"):
            return self.with_texts(word, rest)
        if word in ONE_COUNT:
            return self.with_one_count(word, self.counts(rest, 1, 1)[0])
        if word in ("dot", "line"):
            return self.with_two_columns(word, self.counts(rest, 2, 2))
        if word == "fit":
            return self.fit(self.counts(rest, 2, 4))
        if word != "least" or rest:
            raise Refusal("BadRow")
        self.row_at(1)
        order = [(number, row, place) for row, numbers in enumerate(self.rows) for place, number in enumerate(numbers)]
        return f"{min(order)[1] + 1} {min(order)[2] + 1}"

    def with_texts(self, word, texts):
        if not 1 <= len(texts) <= (6 if word == "row" else 1):
            raise Refusal("BadRow")
        numbers = [measure_of(text, self.width) for text in texts]
        if word == "brief":
            return briefest_text(numbers[0], self.width)
        if self.rows and len(self.rows[0]) != len(numbers):
            raise Refusal("Unfit")
        if len(self.rows) == 60:
            raise Refusal("TooMany")
        self.rows.append(numbers)
        return f"{len(self.rows)}"

    def with_one_count(self, word, count):
        if (word == "width" and not 8 <= count <= 64) or (word == "digits" and count > 40):
            raise Refusal("BadRow")
        if word == "width":
            self.width, self.rows = count, []
        elif word == "digits":
            self.digits = count
        elif word == "drop":
            self.row_at(count)
            self.rows = self.rows[:count - 1] + self.rows[count:]
        elif word == "show":
            return " ".join(briefest_text(number, self.width) for number in self.row_at(count))
        elif word == "order":
            self.columns([count])
            self.rows = sorted(self.rows, key=lambda row: row[count - 1])
        else:
            return self.of_column(word, self.columns([count])[0])
        return "ok"

    def of_column(self, word, column):
        count, total = len(column), sum(column)
        if word == "quick":
            return self.quick(column)
        if word == "sum":
            return self.texts([total])
        if word == "mean":
            return self.texts([total / count])
        if word == "middle":
            return self.texts([(sorted(column)[(count - 1) // 2] + sorted(column)[count // 2]) / 2])
        spread = sum((number - total / count) ** 2 for number in column) / max(count - 1, 1)
        if word == "spread":
            return self.texts([spread])
        return self.texts([exact(nearest_root(spread, self.width))])

    def quick(self, column):
        whole = sizes = Fraction(0)
        for number in column:
            whole = exact(nearest(whole + number, self.width))
            sizes = exact(nearest(sizes + abs(number), self.width))
        return self.texts([whole, len(column) * Fraction(2) ** (1 - self.width) * sizes])

    def with_two_columns(self, word, counts):
        one, other = self.columns(counts)
        if word == "dot":
            return self.texts([sum(x * y for x, y in zip(one, other))])
        parts = fit_of([one], other)
        if parts is None:
            raise Refusal("NoLine")
        return self.texts(reversed(parts))

    def fit(self, counts):
        if len(set(counts[1:])) < len(counts) - 1:
            raise Refusal("BadRow")
        columns = self.columns(counts)
        parts = fit_of(columns[1:], columns[0])
        if parts is None:
            raise Refusal("Dependent")
        return self.texts(parts)


def plain_play(text):
    desk = PlainDesk()
    rows = [re.findall("[^ ]+", row) for row in text.split("\n")]
    return [desk.answer(words) for words in rows if words]


class ByChance(unittest.TestCase):
    def some_text(self, dice):
        kind = dice.randrange(12)
        if kind == 0:
            return dice.choice(("x", "1e", "2e18", "1e-30", "-", "1e999"))
        if kind < 5:
            return str(dice.randrange(-3, 4))
        if kind < 8:
            return f"{dice.randrange(-99, 100)}e{dice.randrange(-15, 15)}"
        return f"{dice.choice(('', '-'))}{dice.randrange(1000)}.{dice.randrange(10 ** dice.choice((1, 9, 30)))}"

    def some_row(self, dice, width, columns):
        word = dice.choice(("row", "row", "row", "row", "drop", "order", "sum", "mean", "spread", "root", "middle",
                            "quick", "dot", "line", "fit", "fit", "least", "show", "brief", "digits", "width"))
        if word == "row":
            count = dice.choice((columns,) * 12 + (1, 2, 7))
            return " ".join([word] + [self.some_text(dice) for _ in range(count)])
        if word == "brief":
            return f"{word} {self.some_text(dice)}"
        if word in ("digits", "width"):
            if word == "width" and dice.randrange(4):
                return ""
            return f"{word} {dice.choice((width, width, 8, 30, 40, 41, 65))}"
        count = {"dot": 2, "line": 2, "fit": dice.choice((2, 3, 4)), "least": 0}.get(word, 1)
        if dice.randrange(20) == 0:
            count += 1
        return " ".join([word] + [str(dice.choice((1, 1, 1, 2, 2, 2, 3, 3, 4, 0))) for _ in range(count)])

    def test_texts_by_chance(self):
        dice = random.Random(111)
        words = {}
        for width in WIDTHS_OF_DESKS:
            for columns in (1, 2, 3, 4):
                for _ in range(10):
                    rows = [f"width {width}"] + [self.some_row(dice, width, columns) for _ in range(60)]
                    text = "\n".join(rows)
                    expected, answers = plain_play(text), asked(self, play, text)
                    self.assertEqual([cut_weights(answer) for answer in answers], expected, text)
                    for row, answer in zip([row for row in rows if row], answers):
                        good, wrong = words.setdefault(row.split(" ")[0], [0, 0])
                        words[row.split(" ")[0]] = [good + 1, wrong] if answer[:7] != "refused" else [good, wrong + 1]
        self.assertEqual(len(words), 17)
        for word, counts in words.items():
            self.assertGreater(min(counts), 3, (word, counts))


def cut_weights(answer):
    """Which weights a Dependent tells, is open where there are several."""
    return "refused: Dependent" if answer.startswith("refused: Dependent ") else answer


if __name__ == "__main__":
    unittest.main()
