"""[60] and, of the true answers, [1]."""

import copy
import math
import random
import unittest
from fractions import Fraction

from helper import (
    WIDTHS, exact, form_of, fractions, nearest, nearest_root, sample_measures, sample_rows, some_number, told,
)
from trueline.numbers import is_measure, is_number
from trueline.ratios import is_ratio
from trueline.reckon import root
from trueline.truth import (
    exact_dot, exact_mean, exact_spread, exact_sum, true_deviation, true_dot, true_mean, true_spread, true_sum,
)

NOUGHT = (0, 0)


def spread_of(row):
    """By what each one is off from the mean, as spreads are commonly told."""
    values = fractions(row)
    if len(values) == 1:
        return Fraction(0)
    mean = sum(values) / len(values)
    return sum([(x - mean) ** 2 for x in values]) / (len(values) - 1)


def dot_of(row, other):
    return sum([x * y for x, y in zip(fractions(row), fractions(other))], Fraction(0))


class Plain(unittest.TestCase):
    def check_ratio(self, thing, answer):
        self.assertEqual(thing, told(answer))
        self.assertTrue(is_ratio(thing))

    def check_number(self, thing, answer, width):
        self.assertEqual(thing, answer)
        self.assertIs(type(thing), tuple)
        self.assertTrue(is_number(thing, width))

    def check_row(self, row, width):
        for number in row:
            self.assertTrue(is_measure(number, width), (number, width))
        whole, spread = sum(fractions(row)), spread_of(row)
        mean = whole / len(row)
        self.check_ratio(exact_sum(row), whole)
        self.check_ratio(exact_mean(row), mean)
        self.check_ratio(exact_spread(row), spread)
        self.check_number(true_sum(row, width), nearest(whole, width), width)
        self.check_number(true_mean(row, width), nearest(mean, width), width)
        self.check_number(true_spread(row, width), nearest(spread, width), width)
        self.check_number(true_deviation(row, width), nearest_root(spread, width), width)
        self.assertGreaterEqual(exact_spread(row)[0], 0)
        self.assertGreaterEqual(true_spread(row, width)[0], 0)

    def check_dot(self, row, other, width):
        self.check_ratio(exact_dot(row, other), dot_of(row, other))
        self.check_number(true_dot(row, other, width), nearest(dot_of(row, other), width), width)


class WrittenOut(Plain):
    def test_sums(self):
        self.assertEqual(exact_sum([(1, 0), (3, -1)]), (5, 2))
        self.assertEqual(exact_sum([(1, 0), (-1, 0)]), (0, 1))
        self.assertEqual(exact_sum([(1, 60), (1, -60), (-1, 60)]), (1, 2 ** 60))
        self.assertEqual(exact_sum([(3, 2), (1, 2)]), (16, 1))
        self.assertEqual(true_sum([(1, 8), (1, 0), (-1, 8)], 8), (1, 0))
        self.assertEqual(true_sum([(1, 8), (1, 0)], 8), (1, 8))
        self.assertEqual(true_sum([(1, 8), (1, 0), (1, -60)], 8), (129, 1))
        self.assertEqual(true_sum([(1, 8), (3, 0), (-1, -60)], 8), (129, 1))

    def test_dots(self):
        self.assertEqual(exact_dot([(1, 0), (3, -1)], [(1, 1), (5, 0)]), (19, 2))
        self.assertEqual(exact_dot([(1, 60), (1, -60)], [(1, 60), (1, -60)]), (2 ** 240 + 1, 2 ** 120))
        self.assertEqual(exact_dot([(1, 60), (1, 60), (1, 0)], [(1, 60), (-1, 60), (3, 0)]), (3, 1))
        self.assertEqual(true_dot([(1, 60), (1, 60), (1, 0)], [(1, 60), (-1, 60), (3, 0)], 8), (3, 0))
        self.assertEqual(true_dot([(255, 0)], [(255, 0)], 8), (127, 9))

    def test_means(self):
        self.assertEqual(exact_mean([(1, 0), (1, 1), (5, 0)]), (8, 3))
        self.assertEqual(exact_mean([(-1, 0), (-1, 0)]), (-1, 1))
        self.assertEqual(true_mean([(1, 0), NOUGHT, NOUGHT], 8), (171, -9))
        self.assertEqual(true_mean([(-1, 0), NOUGHT, NOUGHT], 8), (-171, -9))

    def test_spreads(self):
        self.assertEqual(exact_spread([(1, 0), (3, 0)]), (2, 1))
        self.assertEqual(exact_spread([(1, 0), (1, 1), (3, 0)]), (1, 1))
        self.assertEqual(exact_spread([(1, 0), (1, 0), (1, 1)]), (1, 3))
        self.assertEqual(exact_spread([(7, 3)]), (0, 1))
        self.assertEqual(true_spread([(1, 0), (1, 0), (1, 1)], 8), (171, -9))
        self.assertEqual(true_deviation([(1, 0), (3, 0)], 8), (181, -7))
        self.assertEqual(true_deviation([(1, 0), (1, 1), (3, 0)], 8), (1, 0))


class Rows(Plain):
    def test_one(self):
        for width in WIDTHS:
            for number in sample_measures(width) + [NOUGHT]:
                row = [number]
                self.check_row(row, width)
                self.assertEqual(true_sum(row, width), number)
                self.assertEqual(true_mean(row, width), number)
                self.assertEqual(exact_spread(row), (0, 1))
                self.assertEqual(true_spread(row, width), NOUGHT)
                self.assertEqual(true_deviation(row, width), NOUGHT)

    def test_rows(self):
        for width in WIDTHS:
            for row in sample_rows(width):
                self.check_row(row, width)

    def test_dots(self):
        for width in WIDTHS:
            rows = sample_rows(width)
            for row in rows:
                self.check_dot(row, row, width)
                self.check_dot(row, row[::-1], width)
                for other in rows:
                    if len(other) == len(row):
                        self.check_dot(row, other, width)

    def test_all_alike(self):
        for width in WIDTHS:
            for number in sample_measures(width) + [NOUGHT]:
                for length in (1, 2, 3, 59, 60):
                    row = [number] * length
                    self.check_row(row, width)
                    self.assertEqual(exact_mean(row), told(exact(number)))
                    self.assertEqual(exact_spread(row), (0, 1))
                    self.assertEqual(true_spread(row, width), NOUGHT)
                    self.assertEqual(true_deviation(row, width), NOUGHT)

    def test_all_alike_but_one_by_a_last_digit(self):
        for width in WIDTHS:
            for power in (60 - width, 0 - width, -59 - width):
                row = [(2 ** (width - 1) + 1, power)] * 59 + [(2 ** (width - 1) + 3, power)]
                self.check_row(row, width)
                self.assertGreater(true_spread(row, width)[0], 0)
                self.assertEqual(exact_spread(row), told(exact((1, power)) ** 2 * Fraction(4 * 59, 60 * 59)))

    def test_the_ends_of_the_measures(self):
        for width in WIDTHS:
            ends = [(1, 60), (-1, 60), (1, -60), (-1, -60), NOUGHT]
            for one in ends:
                for other in ends:
                    for length in (1, 2, 30):
                        row = [one, other] * length
                        self.check_row(row, width)
                        self.check_dot(row, row[::-1], width)
                        self.check_row(row[:-1], width)

    def test_all_cancels_but_the_least(self):
        for width in WIDTHS:
            dice = random.Random(width + 60)
            half = [some_number(dice, width, 0, 60) for _ in range(29)]
            row = half + [(-whole, power) for whole, power in half] + [(3, -60), NOUGHT]
            dice.shuffle(row)
            self.check_row(row, width)
            self.assertEqual(true_sum(row, width), (3, -60))
            other = [(1, 0)] * 60
            self.assertEqual(true_dot(row, other, width), (3, -60))

    def test_a_sum_in_the_midst_of_two_and_a_hair_beside(self):
        for width in WIDTHS:
            for whole in (2 ** (width - 1) + 1, 2 ** width - 1):
                odd, half = (whole, -width), (1, -width - 1)
                shift = max(0, width - 50)
                row = [(odd[0], odd[1] + shift), (half[0], half[1] + shift)]
                for hair in ([], [(1, -60)], [(-1, -60)]):
                    for beside in (row + hair, [(-x, power) for x, power in row + hair], hair + row):
                        self.check_row(beside, width)

    def test_numbers_of_a_lesser_width(self):
        for row in sample_rows(8):
            for width in (9, 53, 64):
                self.check_row(row, width)

    def test_the_deviation_is_the_nearest_to_the_root(self):
        # Of -x and x the spread is 2 x x; of -x, 0 and x just x x.
        for width in WIDTHS:
            for number in sample_measures(width):
                row = [number, (-number[0], number[1])]
                self.check_row(row, width)
                self.check_row(row + [NOUGHT], width)
                self.assertEqual(true_deviation(row + [NOUGHT], width), (abs(number[0]), number[1]))

    def test_the_deviation_does_not_go_by_the_rounded_spread(self):
        found = 0
        dice = random.Random(61)
        for width in WIDTHS:
            for _ in range(200):
                row = [some_number(dice, width, -2, 2) for _ in range(3)]
                answer = true_deviation(row, width)
                self.assertEqual(answer, nearest_root(spread_of(row), width))
                self.assertEqual(answer, root(exact_spread(row), width))
                found += answer != nearest_root(exact(true_spread(row, width)), width)
        self.assertGreater(found, 0)

    def test_as_python_sums_at_the_width_fifty_three(self):
        dice = random.Random(62)
        for _ in range(100):
            values = [dice.uniform(-4, 4) * 2.0 ** dice.randrange(-40, 40) for _ in range(60)]
            row = [form_of(Fraction(x)) for x in values]
            self.assertEqual(true_sum(row, 53), form_of(Fraction(math.fsum(values))))


class AnotherOrder(Plain):
    def test_of_one_row(self):
        for width in WIDTHS:
            dice = random.Random(width + 63)
            for row in sample_rows(width):
                first = self.answers(row, width)
                for _ in range(3):
                    other = list(row)
                    dice.shuffle(other)
                    self.assertEqual(self.answers(other, width), first)
                self.assertEqual(self.answers(sorted(row, key=exact), width), first)
                self.assertEqual(self.answers(row[::-1], width), first)

    def answers(self, row, width):
        told_exactly = [function(row) for function in (exact_sum, exact_mean, exact_spread)]
        functions = (true_sum, true_mean, true_spread, true_deviation)
        return told_exactly + [function(row, width) for function in functions]

    def test_of_two_rows_in_the_same_order(self):
        for width in WIDTHS:
            dice = random.Random(width + 64)
            rows = sample_rows(width)
            for row in rows:
                for other in [other for other in rows if len(other) == len(row)][:3]:
                    first = (exact_dot(row, other), true_dot(row, other, width))
                    self.assertEqual((exact_dot(other, row), true_dot(other, row, width)), first)
                    places = list(range(len(row)))
                    dice.shuffle(places)
                    one, two = [row[place] for place in places], [other[place] for place in places]
                    self.assertEqual((exact_dot(one, two), true_dot(one, two, width)), first)


class NothingChanges(Plain):
    def test_what_is_handed_in_stays(self):
        row, other = [(1, -5), NOUGHT, (-3, 0), (1, 8)], [(3, 1), (5, 2), NOUGHT, (-255, -9)]
        before = copy.deepcopy((row, other))
        first = self.all_answers(row, other)
        self.assertEqual((row, other), before)
        self.assertEqual(self.all_answers(row, other), first)
        row.append((1, 1))
        other[0] = (7, 7)
        self.assertEqual(self.all_answers(*before), first)

    def all_answers(self, row, other):
        answers = [function(row) for function in (exact_sum, exact_mean, exact_spread)]
        answers += [function(row, 8) for function in (true_sum, true_mean, true_spread, true_deviation)]
        return answers + [exact_dot(row, other), true_dot(row, other, 8), exact_dot(row, row)]


if __name__ == "__main__":
    unittest.main()
