"""[50], [51] and, of the quick answers, [1]."""

import copy
import random
import unittest
from fractions import Fraction

from helper import WIDTHS, exact, form_of, nearest, sample_measures, sample_rows
from trueline.numbers import is_measure, is_number
from trueline.quick import quick_dot, quick_sum

NOUGHT = (0, 0)


def rounded(fraction, width):
    return exact(nearest(fraction, width))


def by_the_steps(parts, count, width):
    """As the document tells it: s and t from the first to the last, then the bound."""
    s = t = Fraction(0)
    for part in parts:
        s = rounded(s + part, width)
        t = rounded(t + abs(part), width)
    return form_of(s), nearest(count * Fraction(2) ** (1 - width) * t, width)


def sum_by_the_steps(row, width):
    return by_the_steps([exact(x) for x in row], len(row), width)


def dot_by_the_steps(row, other, width):
    products = [rounded(exact(x) * exact(y), width) for x, y in zip(row, other)]
    return by_the_steps(products, len(row) + 1, width)


def pairs_of_rows(width):
    """Rows that are as long, beside themselves, the other way round, and so that the products cancel."""
    pairs = []
    rows = sample_rows(width)
    for row in rows:
        pairs.append((row, row))
        pairs.append((row, row[::-1]))
        signs = [(-1) ** place for place in range(len(row))]
        pairs.append((row, [(sign * whole, power) for sign, (whole, power) in zip(signs, row[::-1])]))
        pairs += [(row, other) for other in rows if len(other) == len(row)][:2]
    return pairs


class Quick(unittest.TestCase):
    def check_rows(self, rows, width):
        for row in rows:
            self.assertTrue(1 <= len(row) <= 60)
            for number in row:
                self.assertTrue(is_measure(number, width), (number, width))

    def check(self, told, answer, whole, width):
        self.assertEqual(told, answer)
        self.assertIs(type(told), tuple)
        for number in told:
            self.assertIs(type(number), tuple)
            self.assertTrue(is_number(number, width))
        self.assertLessEqual(abs(whole - exact(told[0])), exact(told[1]))

    def check_sum(self, row, width):
        self.check_rows([row], width)
        whole = sum([exact(x) for x in row], Fraction(0))
        self.check(quick_sum(row, width), sum_by_the_steps(row, width), whole, width)

    def check_dot(self, row, other, width):
        self.check_rows([row, other], width)
        whole = sum([exact(x) * exact(y) for x, y in zip(row, other)], Fraction(0))
        self.check(quick_dot(row, other, width), dot_by_the_steps(row, other, width), whole, width)


class Sums(Quick):
    def test_written_out(self):
        self.assertEqual(quick_sum([(1, 0)], 8), ((1, 0), (1, -7)))
        self.assertEqual(quick_sum([(-3, 2)], 8), ((-3, 2), (3, -5)))
        self.assertEqual(quick_sum([NOUGHT], 8), (NOUGHT, NOUGHT))
        self.assertEqual(quick_sum([(1, 8), (1, 0)], 8), ((1, 8), (1, 2)))
        self.assertEqual(quick_sum([(1, 8), (1, 0), (-1, 8)], 8), (NOUGHT, (3, 2)))
        self.assertEqual(quick_sum([(1, 8), (-1, 8), (1, 0)], 8), ((1, 0), (3, 2)))
        self.assertEqual(quick_sum([(1, 8), (1, 0), (-1, 8)], 9), ((1, 0), (3, 1)))

    def test_one(self):
        for width in WIDTHS:
            for number in sample_measures(width) + [NOUGHT]:
                bound = NOUGHT if number == NOUGHT else (abs(number[0]), number[1] + 1 - width)
                self.assertEqual(quick_sum([number], width), (number, bound))

    def test_noughts_alone(self):
        for width in WIDTHS:
            for length in (1, 2, 60):
                self.assertEqual(quick_sum([NOUGHT] * length, width), (NOUGHT, NOUGHT))

    def test_rows(self):
        for width in WIDTHS:
            for row in sample_rows(width):
                self.check_sum(row, width)

    def test_the_order_of_the_steps(self):
        row = [(1, 8)] + [(1, 0)] * 59
        self.assertEqual(quick_sum(row, 8)[0], (1, 8))
        self.assertEqual(quick_sum(row[::-1], 8)[0], (79, 2))
        self.assertEqual(quick_sum(row + [(-1, 8)], 8)[0], NOUGHT)

    def test_every_step_rounded_one_way(self):
        # Each step loses, or gains, half a last digit: the furthest off that a sum comes.
        for width in WIDTHS:
            halves = [1, 1 - Fraction(1, 2 ** width), 1 + Fraction(1, 2 ** (width - 1)), -1, Fraction(-1, 2)]
            for great in (Fraction(1), 1 + Fraction(1, 2 ** (width - 1)), 2 - Fraction(1, 2 ** (width - 1))):
                for half in halves:
                    row = [form_of(great * 2 ** 10)] + [form_of(Fraction(half) * 2 ** 10 / 2 ** width)] * 59
                    self.check_sum(row, width)
                    self.check_sum([(-whole, power) for whole, power in row], width)

    def test_many_rows_at_the_width_eight(self):
        dice = random.Random(50)
        for _ in range(300):
            row = [(dice.choice((1, 1, -1)) * dice.randrange(1, 256, 2), dice.randrange(-9, 3)) for _ in range(60)]
            self.check_sum(row[:dice.randrange(1, 61)], 8)

    def test_numbers_of_a_lesser_width(self):
        for row in sample_rows(8):
            for width in (9, 53, 64):
                self.check_sum(row, width)


class Dots(Quick):
    def test_written_out(self):
        self.assertEqual(quick_dot([(1, 0)], [(1, 0)], 8), ((1, 0), (1, -6)))
        self.assertEqual(quick_dot([(-3, 2)], [(5, 1)], 8), ((-15, 3), (15, -3)))
        self.assertEqual(quick_dot([NOUGHT], [(5, 1)], 8), (NOUGHT, NOUGHT))
        self.assertEqual(quick_dot([(255, 0)], [(255, 0)], 8), ((127, 9), (127, 3)))
        self.assertEqual(quick_dot([(255, 0), (255, 0)], [(255, 0), (-255, 0)], 8), (NOUGHT, (95, 5)))

    def test_noughts_alone(self):
        for width in WIDTHS:
            for length in (1, 2, 60):
                self.assertEqual(quick_dot([NOUGHT] * length, [(3, 5)] * length, width), (NOUGHT, NOUGHT))
                self.assertEqual(quick_dot([(3, 5)] * length, [NOUGHT] * length, width), (NOUGHT, NOUGHT))

    def test_rows(self):
        for width in WIDTHS:
            for row, other in pairs_of_rows(width):
                self.check_dot(row, other, width)

    def test_the_ends_of_the_measures(self):
        for width in WIDTHS:
            for power in (60, -60):
                for sign in (1, -1):
                    row, other = [(1, power)] * 60, [(sign, power)] * 60
                    self.check_dot(row, other, width)
                    self.check_dot(row, [(1, -power)] * 60, width)

    def test_many_rows_at_the_width_eight(self):
        dice = random.Random(51)
        for _ in range(300):
            row, other = [
                [(dice.choice((1, 1, -1)) * dice.randrange(1, 256, 2), dice.randrange(-9, 3)) for _ in range(60)]
                for _ in range(2)
            ]
            length = dice.randrange(1, 61)
            self.check_dot(row[:length], other[:length], 8)

    def test_every_product_rounded_one_way(self):
        wholes = [(one, other) for one in range(129, 256, 2) for other in range(129, 256, 2)]
        off = sorted(wholes, key=lambda pair: exact(nearest(Fraction(pair[0] * pair[1]), 8)) / (pair[0] * pair[1]))
        for chosen in (off[:60], off[-60:], off[:1] * 60, off[-1:] * 60, off[:1], off[-1:]):
            self.check_dot([(one, 0) for one, _ in chosen], [(other, 0) for _, other in chosen], 8)

    def test_numbers_of_a_lesser_width(self):
        for row, other in pairs_of_rows(8)[::3]:
            for width in (9, 53, 64):
                self.check_dot(row, other, width)


class NothingChanges(unittest.TestCase):
    def test_what_is_handed_in_stays(self):
        row, other = [(1, -5), NOUGHT, (-3, 0), (1, 8)], [(3, 1), (5, 2), NOUGHT, (-255, -9)]
        before = copy.deepcopy((row, other))
        first = (quick_sum(row, 8), quick_dot(row, other, 8), quick_dot(row, row, 8))
        self.assertEqual((row, other), before)
        self.assertEqual((quick_sum(row, 8), quick_dot(row, other, 8), quick_dot(row, row, 8)), first)
        row.append((1, 1))
        other[0] = (7, 7)
        self.assertEqual(first[0], quick_sum(before[0], 8))
        self.assertEqual(first[1], quick_dot(before[0], before[1], 8))


if __name__ == "__main__":
    unittest.main()
