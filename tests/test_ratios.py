"""[10], [11] and, of the ratios, [1]."""

import copy
import random
import unittest
from fractions import Fraction

from trueline.errors import NoRatio, TrueError
from trueline.ratios import is_ratio, minus, order_of, over, plus, ratio, times

BOUND = 2 ** 1400
GREAT = BOUND - 1


def told(fraction):
    return (fraction.numerator, fraction.denominator)


def some_ratios():
    rows = [Fraction(0), Fraction(1), Fraction(-1), Fraction(1, 2), Fraction(-1, 2)]
    rows += [Fraction(2), Fraction(-7, 3), Fraction(7, 3), Fraction(6), Fraction(-5, 6)]
    dice = random.Random(11)
    for bits in (4, 12, 60, 400, 1000, 1399):
        for sign in (1, -1):
            top = sign * dice.randrange(2 ** (bits - 1), 2 ** bits)
            rows.append(Fraction(top, dice.randrange(1, 2 ** bits)))
    return rows


class PlainKinds(unittest.TestCase):
    def check_ratio(self, thing):
        self.assertIs(type(thing), tuple)
        self.assertEqual(len(thing), 2)
        self.assertIs(type(thing[0]), int)
        self.assertIs(type(thing[1]), int)


class MakingARatio(PlainKinds):
    def test_written_out(self):
        cases = [
            (1, 1, (1, 1)), (3, 4, (3, 4)), (6, 8, (3, 4)), (-6, 8, (-3, 4)),
            (6, -8, (-3, 4)), (-6, -8, (3, 4)), (8, 4, (2, 1)), (8, -4, (-2, 1)),
            (-8, -4, (2, 1)), (1, -1, (-1, 1)), (7, 1, (7, 1)), (1, 7, (1, 7)),
            (-1, -7, (1, 7)), (12, 18, (2, 3)), (5, 5, (1, 1)), (-5, 5, (-1, 1)),
        ]
        for top, under, answer in cases:
            self.assertEqual(ratio(top, under), answer)
            self.check_ratio(ratio(top, under))

    def test_nought(self):
        for under in (1, -1, 2, -2, 15, GREAT, -GREAT):
            self.assertEqual(ratio(0, under), (0, 1))

    def test_no_ratio_where_under_is_nought(self):
        for top in (0, 1, -1, 17, GREAT, -GREAT):
            with self.assertRaises(NoRatio):
                ratio(top, 0)

    def test_great(self):
        self.assertEqual(ratio(GREAT, GREAT), (1, 1))
        self.assertEqual(ratio(GREAT, -GREAT), (-1, 1))
        self.assertEqual(ratio(GREAT, 1), (GREAT, 1))
        self.assertEqual(ratio(1, -GREAT), (-1, GREAT))
        self.assertEqual(ratio(GREAT, GREAT - 1), (GREAT, GREAT - 1))
        self.assertEqual(ratio(-(2 ** 1399), 2 ** 1398), (-2, 1))
        dice = random.Random(5)
        for _ in range(40):
            divisor = dice.randrange(1, 2 ** 700)
            top = dice.randrange(-(2 ** 699), 2 ** 699) * divisor
            under = dice.randrange(1, 2 ** 699) * divisor * dice.choice((1, -1))
            self.assertEqual(ratio(top, under), told(Fraction(top, under)))

    def test_all_small_ones(self):
        for top in range(-30, 31):
            for under in range(-30, 31):
                if under != 0:
                    self.assertEqual(ratio(top, under), told(Fraction(top, under)))


class TellingARatio(unittest.TestCase):
    def test_ratios(self):
        things = [
            (0, 1), (1, 1), (-1, 1), (1, 2), (-1, 2), (3, 4), (-9, 4), (25, 1),
            (GREAT, 1), (1, GREAT), (-GREAT, GREAT - 1), (BOUND * 8 + 1, 2), (1, BOUND ** 2),
        ]
        for thing in things:
            self.assertIs(is_ratio(thing), True, thing)

    def test_a_common_divisor(self):
        for thing in [(2, 4), (-2, 4), (6, 3), (5, 5), (-5, 5), (0, 2), (0, 7), (GREAT, GREAT), (9, 6)]:
            self.assertIs(is_ratio(thing), False, thing)

    def test_under_not_above_nought(self):
        for thing in [(1, 0), (0, 0), (-1, 0), (1, -1), (1, -2), (-3, -4), (0, -1)]:
            self.assertIs(is_ratio(thing), False, thing)

    def test_truths_within(self):
        for thing in [(True, 1), (1, True), (False, 1), (0, True), (True, True), (False, True), (3, False)]:
            self.assertIs(is_ratio(thing), False, thing)

    def test_things_of_other_sorts(self):
        things = [
            None, True, False, 0, 1, -5, "", "1/2", "12", "(1, 2)", [], [1, 2], [0, 1], (), (1,), (1, 2, 3),
            (0, 1, 1), ((1, 2),), ((1, 2), 1), (1, (1, 2)), ((1, 2), (1, 3)), ([1], 2), (1, [2]), [(1, 2)],
            ("1", "2"), ("1", 2), (1, "2"), (None, 1), (1, None), (None, None), [[1, 2]], (((),),), [[], [[]]],
        ]
        for thing in things:
            self.assertIs(is_ratio(thing), False, thing)

    def test_by_reckoning(self):
        for top in range(-12, 13):
            for under in range(-3, 13):
                expected = under > 0 and told(Fraction(top, under)) == (top, under)
                self.assertIs(is_ratio((top, under)), expected, (top, under))


class Reckoning(PlainKinds):
    def check_all(self, one, other):
        a, b = told(one), told(other)
        answers = [(plus, one + other), (minus, one - other), (times, one * other)]
        if other != 0:
            answers.append((over, one / other))
        for function, answer in answers:
            self.assertEqual(function(a, b), told(answer), (function, a, b))
            self.check_ratio(function(a, b))

    def test_written_out(self):
        self.assertEqual(plus((1, 2), (1, 3)), (5, 6))
        self.assertEqual(plus((1, 6), (1, 3)), (1, 2))
        self.assertEqual(plus((1, 2), (-1, 2)), (0, 1))
        self.assertEqual(minus((1, 2), (1, 3)), (1, 6))
        self.assertEqual(minus((1, 3), (1, 2)), (-1, 6))
        self.assertEqual(minus((5, 7), (5, 7)), (0, 1))
        self.assertEqual(times((2, 3), (3, 4)), (1, 2))
        self.assertEqual(times((-2, 3), (3, 2)), (-1, 1))
        self.assertEqual(times((0, 1), (3, 2)), (0, 1))
        self.assertEqual(over((2, 3), (-4, 3)), (-1, 2))
        self.assertEqual(over((-2, 3), (-4, 3)), (1, 2))
        self.assertEqual(over((0, 1), (-4, 3)), (0, 1))

    def test_many_pairs(self):
        for one in some_ratios():
            for other in some_ratios():
                self.check_all(one, other)

    def test_over_nought(self):
        for one in some_ratios():
            with self.assertRaises(NoRatio):
                over(told(one), (0, 1))

    def test_no_ratio_is_a_true_error(self):
        with self.assertRaises(TrueError):
            over((1, 1), (0, 1))


class Order(unittest.TestCase):
    def test_many_pairs(self):
        for one in some_ratios():
            for other in some_ratios():
                answer = order_of(told(one), told(other))
                self.assertEqual(answer, (one > other) - (one < other))
                self.assertIs(type(answer), int)

    def test_written_out(self):
        self.assertEqual(order_of((1, 3), (1, 2)), -1)
        self.assertEqual(order_of((1, 2), (1, 3)), 1)
        self.assertEqual(order_of((-1, 3), (-1, 2)), 1)
        self.assertEqual(order_of((-1, 2), (1, 2)), -1)
        self.assertEqual(order_of((0, 1), (0, 1)), 0)
        self.assertEqual(order_of((0, 1), (-1, GREAT)), 1)
        self.assertEqual(order_of((0, 1), (1, GREAT)), -1)

    def test_a_little_difference(self):
        for great in (10 ** 20, 10 ** 300, GREAT - 2):
            one = Fraction(great, great + 1)
            other = Fraction(great + 1, great + 2)
            self.assertEqual(order_of(told(one), told(other)), -1)
            self.assertEqual(order_of(told(other), told(one)), 1)
            self.assertEqual(order_of(told(-one), told(-other)), 1)
            self.assertEqual(order_of(told(one), told(one)), 0)
            self.assertEqual(order_of((great, 1), (great + 1, 1)), -1)


class NothingChanges(unittest.TestCase):
    def test_things_handed_in_stay(self):
        things = [[1, 2], [[1], [2, [3]]], ([1], [2]), (1, [2]), [None, "a", (True, [False])]]
        for thing in things:
            before = copy.deepcopy(thing)
            is_ratio(thing)
            self.assertEqual(thing, before)

    def test_asked_anew_tells_the_same(self):
        for function in (plus, minus, times, over, order_of):
            one, other = (-9, 4), (5, 6)
            first = function(one, other)
            self.assertEqual(function(one, other), first)
            self.assertEqual((one, other), ((-9, 4), (5, 6)))

    def test_asked_anew_behind_a_refusal(self):
        for _ in range(2):
            with self.assertRaises(NoRatio):
                ratio(3, 0)
            self.assertEqual(ratio(3, -6), (-1, 2))


if __name__ == "__main__":
    unittest.main()
