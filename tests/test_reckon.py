"""[30] to [32] and, of the reckoning, [1]."""

import math
import random
import unittest
from fractions import Fraction

from helper import (
    WIDTHS, exact, form_of, nearest, nearest_root, sample_numbers, sample_wholes, some_number, step_at, told,
)
from trueline.errors import NoRatio, NoRoot, TrueError
from trueline.numbers import is_number
from trueline.reckon import (
    added, divided, halves, multiplied, product_rest, rest_by_steps, root, sum_rest, taken,
)

NOUGHT = (0, 0)


def in_both_orders(pairs):
    return pairs + [(other, one) for one, other in pairs]


def with_all_signs(pairs):
    signs = [(1, 1), (1, -1), (-1, 1), (-1, -1)]
    return [((a * one[0], one[1]), (b * other[0], other[1])) for one, other in pairs for a, b in signs]


def of_one_size(width):
    wholes = sample_wholes(width)
    dice = random.Random(width + 1)
    return [((one, power), (dice.choice(wholes), power + dice.choice((-1, 0, 0, 1))))
            for one in wholes for power in (-1300, -3, 0, 7, 1300)]


def nearly_cancelling(width):
    """Numbers and those a few last digits beside them, to be added with unlike signs."""
    pairs = []
    for whole in sample_wholes(width):
        one = Fraction(whole)
        step = step_at(one, width)
        for steps in (0, 1, 2, 3, 7):
            pairs.append((form_of(one), nearest(one + steps * step, width)))
            pairs.append((form_of(one), nearest(one - steps * step / 2, width)))
    return [pair for pair in pairs if NOUGHT not in pair]


def about_half_a_last_digit(width):
    """One number being half a last digit of the other, a quarter, one, and these but for a hair."""
    pairs = []
    for whole in sample_wholes(width) + [2 ** (width - 1) + 3, 2 ** width - 5]:
        step = step_at(Fraction(whole), width)
        for part in (Fraction(1, 4), Fraction(1, 2), Fraction(1), Fraction(3, 4), Fraction(3, 2)):
            little = form_of(part * step)
            pairs.append(((whole, 0), little))
            for side in (1, -1):
                beside = nearest(exact(little) + side * step_at(exact(little), width), width)
                pairs.append(((whole, 0), beside))
    return pairs


def far_apart(width):
    dice = random.Random(width + 2)
    pairs = []
    for one, other in [(1300, -1300), (1300, 0), (0, -1300), (1300, 1300), (-1300, -1300), (1300, 1290), (5, -width)]:
        for _ in range(6):
            pairs.append(((dice.choice(sample_wholes(width)), one), (dice.choice(sample_wholes(width)), other)))
    return pairs


def by_chance(width):
    dice = random.Random(width + 3)
    pairs = [(some_number(dice, width, -9, 9), some_number(dice, width, -9, 9)) for _ in range(150)]
    pairs += [(some_number(dice, width, -90, 90), some_number(dice, width, -90, 90)) for _ in range(150)]
    return pairs


def with_nought(width):
    return [(NOUGHT, number) for number in sample_numbers(width)[::7]] + [(NOUGHT, NOUGHT)]


def sample_pairs(width):
    pairs = of_one_size(width) + nearly_cancelling(width) + about_half_a_last_digit(width)
    pairs += far_apart(width) + by_chance(width) + with_nought(width)
    return in_both_orders(with_all_signs(pairs))


class Plain(unittest.TestCase):
    def check_number(self, thing, width):
        self.assertIs(type(thing), tuple)
        self.assertEqual([type(part) for part in thing], [int, int])
        self.assertTrue(is_number(thing, width), (thing, width))

    def check_pair(self, thing, width):
        self.assertIs(type(thing), tuple)
        self.assertEqual(len(thing), 2)
        for number in thing:
            self.check_number(number, width)


class TheFour(Plain):
    def test_written_out(self):
        self.assertEqual(added((1, 0), (1, 0), 8), (1, 1))
        self.assertEqual(added((255, 0), (1, 0), 8), (1, 8))
        self.assertEqual(added((1, 8), (1, 0), 8), (1, 8))
        self.assertEqual(added((1, 8), (3, 0), 8), (65, 2))
        self.assertEqual(added((1, 8), (1, 0), 9), (257, 0))
        self.assertEqual(added((3, -1), (-3, -1), 8), (0, 0))
        self.assertEqual(taken((1, 0), (1, 0), 8), (0, 0))
        self.assertEqual(taken((1, 0), (3, 0), 8), (-1, 1))
        self.assertEqual(taken((1, 8), (1, -1), 8), (1, 8))
        self.assertEqual(taken((1, 8), (1, 0), 8), (255, 0))
        self.assertEqual(multiplied((255, 0), (255, 0), 8), (127, 9))
        self.assertEqual(multiplied((-3, 5), (5, -9), 8), (-15, -4))
        self.assertEqual(multiplied((3, 1300), (3, 1300), 8), (9, 2600))
        self.assertEqual(divided((1, 0), (3, 0), 8), (171, -9))
        self.assertEqual(divided((1, 0), (-3, 0), 8), (-171, -9))
        self.assertEqual(divided((-9, 4), (-3, 6), 8), (3, -2))
        self.assertEqual(divided((1, -1300), (1, 1300), 8), (1, -2600))

    def test_many_pairs(self):
        for width in WIDTHS:
            for one, other in sample_pairs(width):
                a, b = exact(one), exact(other)
                answers = [(added, a + b), (taken, a - b), (multiplied, a * b)]
                if b != 0:
                    answers.append((divided, a / b))
                for function, answer in answers:
                    number = function(one, other, width)
                    self.assertEqual(number, nearest(answer, width), (function, one, other, width))
                    self.check_number(number, width)

    def test_the_midst_of_two_and_a_hair_beside(self):
        for width in WIDTHS:
            for whole in (2 ** (width - 1) + 1, 2 ** (width - 1) + 3, 2 ** width - 1, 2 ** width - 3):
                odd = (whole, 1)
                self.assertEqual(added(odd, (1, 0), width), nearest(Fraction(2 * whole + 2), width))
                self.assertEqual(taken(odd, (1, 0), width), nearest(Fraction(2 * whole - 2), width))
                for far in (width, 300, 1300):
                    little = (2 ** width - 1, -far - width)
                    self.assertEqual(added(odd, little, width), odd)
                    self.assertEqual(taken(odd, little, width), odd)
                hair = (2 ** width - 1, -width)
                self.assertEqual(added(odd, hair, width), odd)
                beyond = (2 ** (width - 1) + 1, 1 - width)
                self.assertEqual(added(odd, beyond, width), nearest(Fraction(2 * whole + 2), width))
            even = (1, width)
            self.assertEqual(added(even, (1, 0), width), even)
            self.assertEqual(added(even, (2 ** (width - 1) + 1, 1 - width), width), (2 ** (width - 1) + 1, 1))
            self.assertEqual(taken(even, (1, -1), width), even)
            self.assertEqual(taken(even, (2 ** (width - 1) + 1, -width), width), (2 ** width - 1, 0))

    def test_nought(self):
        for width in WIDTHS:
            for number in sample_numbers(width) + [NOUGHT]:
                self.assertEqual(added(number, NOUGHT, width), number)
                self.assertEqual(added(NOUGHT, number, width), number)
                self.assertEqual(taken(number, NOUGHT, width), number)
                self.assertEqual(taken(NOUGHT, number, width), (-number[0], number[1]))
                self.assertEqual(taken(number, number, width), NOUGHT)
                self.assertEqual(multiplied(number, NOUGHT, width), NOUGHT)
                self.assertEqual(multiplied(NOUGHT, number, width), NOUGHT)
                if number != NOUGHT:
                    self.assertEqual(divided(NOUGHT, number, width), NOUGHT)
                    self.assertEqual(divided(number, number, width), (1, 0))

    def test_divided_by_nought(self):
        for width in WIDTHS:
            for number in sample_numbers(width)[::5] + [NOUGHT]:
                with self.assertRaises(NoRatio):
                    divided(number, NOUGHT, width)
        with self.assertRaises(TrueError):
            divided((1, 0), NOUGHT, 53)

    def test_small_wholes_at_all_widths(self):
        dice = random.Random(30)
        for width in range(8, 65):
            for _ in range(20):
                one, other = some_number(dice, width, -3, 3), some_number(dice, width, -3, 3)
                a, b = exact(one), exact(other)
                self.assertEqual(added(one, other, width), nearest(a + b, width))
                self.assertEqual(taken(one, other, width), nearest(a - b, width))
                self.assertEqual(multiplied(one, other, width), nearest(a * b, width))
                self.assertEqual(divided(one, other, width), nearest(a / b, width))

    def test_as_python_reckons_at_the_width_fifty_three(self):
        dice = random.Random(53)
        for _ in range(1000):
            a, b = dice.uniform(-4, 4) * 2.0 ** dice.randrange(-60, 60), dice.uniform(-4, 4)
            one, other = form_of(Fraction(a)), form_of(Fraction(b))
            self.assertEqual(added(one, other, 53), form_of(Fraction(a + b)))
            self.assertEqual(taken(one, other, 53), form_of(Fraction(a - b)))
            self.assertEqual(multiplied(one, other, 53), form_of(Fraction(a * b)))
            self.assertEqual(divided(one, other, 53), form_of(Fraction(a / b)))


class Roots(Plain):
    def check(self, given, width):
        answer = root(told(given), width)
        self.assertEqual(answer, nearest_root(given, width), (given, width))
        self.check_number(answer, width)

    def check_beside(self, point, width):
        """The square of a point, and by a hair beside it."""
        square = point * point
        self.check(square, width)
        for hair in (Fraction(1, 10 ** 3), Fraction(1, 2 ** 200), Fraction(1, 3 ** 300), Fraction(1, 10 ** 160)):
            self.check(square * (1 + hair), width)
            self.check(square * (1 - hair), width)

    def test_written_out(self):
        self.assertEqual(root((4, 1), 8), (1, 1))
        self.assertEqual(root((9, 4), 8), (3, -1))
        self.assertEqual(root((1, 4), 53), (1, -1))
        self.assertEqual(root((2, 1), 8), (181, -7))
        self.assertEqual(root((1, 9), 8), (171, -9))
        self.assertEqual(root((257 * 257, 1), 8), (1, 8))
        self.assertEqual(root((259 * 259, 1), 8), (65, 2))
        self.assertEqual(root((257 * 257 + 1, 1), 8), (129, 1))
        self.assertEqual(root((259 * 259 - 1, 1), 8), (129, 1))

    def test_nought(self):
        for width in range(8, 65):
            self.assertEqual(root((0, 1), width), NOUGHT)

    def test_below_nought(self):
        for width in WIDTHS:
            for given in ((-1, 1), (-4, 1), (-1, 9), (-(2 ** 1400) + 1, 1), (-1, 2 ** 1400 - 1), (-7, 3)):
                with self.assertRaises(NoRoot):
                    root(given, width)
        with self.assertRaises(TrueError):
            root((-1, 1), 53)

    def test_squares_of_numbers(self):
        for width in WIDTHS:
            for whole in sample_wholes(width) + [2 ** width - 1, 2 ** (width - 1) + 1]:
                for power in (0, 1, -1, 7, -7, 60, -60, 500, -500):
                    given = exact((whole, power)) ** 2
                    self.assertEqual(root(told(given), width), (whole, power))
                self.check_beside(Fraction(whole), width)
                self.check_beside(exact((whole, -101)), width)

    def test_squares_of_points_in_the_midst(self):
        for width in WIDTHS:
            for whole in [2 ** (width - 1) + more for more in range(6)] + [2 ** width - less for less in range(1, 6)]:
                for power in (-1, 0, 33, -90):
                    self.check_beside(exact((2 * whole + 1, power)), width)

    def test_the_midst_goes_to_the_last_digit_nought(self):
        for width in WIDTHS:
            least = 2 ** (width - 1)
            for whole, answer in ((least, least), (least + 1, least + 2), (2 * least - 1, 2 * least)):
                square = (2 * whole + 1) ** 2
                self.assertEqual(exact(root((square, 4), width)), answer)

    def test_very_great_and_very_little(self):
        great = 2 ** 1400 - 1
        for width in WIDTHS:
            for given in (Fraction(great), Fraction(1, great), Fraction(great, 3), Fraction(3, great),
                          Fraction(2 ** 1399), Fraction(1, 2 ** 1399), Fraction(2 ** 1398), Fraction(1, 2 ** 1398),
                          Fraction(great, great - 1), Fraction(great - 1, great)):
                self.check(given, width)

    def test_each_length(self):
        for width in WIDTHS:
            for digits in range(1, 150):
                for given in (2 ** digits - 1, 2 ** digits, 2 ** digits + 1, 3 ** digits):
                    self.check(Fraction(given), width)
                    self.check(Fraction(1, given), width)
                    self.check(Fraction(given, 7 ** 30), width)

    def test_small_ones_at_all_widths(self):
        for width in range(8, 65):
            for top in range(1, 20):
                for under in (1, 2, 3, 10):
                    self.check(Fraction(top, under), width)

    def test_as_python_roots_at_the_width_fifty_three(self):
        dice = random.Random(530)
        for _ in range(1000):
            given = dice.uniform(0, 4) * 2.0 ** dice.randrange(-60, 60)
            answer = form_of(Fraction(math.sqrt(given)))
            self.assertEqual(root(told(Fraction(given)), 53), answer)


class Rests(Plain):
    def check(self, pair, whole, width):
        self.check_pair(pair, width)
        self.assertEqual(pair[0], nearest(whole, width), (whole, width))
        self.assertEqual(exact(pair[0]) + exact(pair[1]), whole)
        self.assertEqual(pair[1] == NOUGHT, exact(pair[0]) == whole)

    def test_written_out(self):
        self.assertEqual(sum_rest((1, 8), (1, 0), 8), ((1, 8), (1, 0)))
        self.assertEqual(sum_rest((1, 8), (3, 0), 8), ((65, 2), (-1, 0)))
        self.assertEqual(sum_rest((1, 0), (1, 0), 8), ((1, 1), (0, 0)))
        self.assertEqual(sum_rest((1, 0), (-1, 0), 8), ((0, 0), (0, 0)))
        self.assertEqual(sum_rest((1, 1300), (-5, -1300), 8), ((1, 1300), (-5, -1300)))
        self.assertEqual(product_rest((255, 0), (255, 0), 8), ((127, 9), (1, 0)))
        self.assertEqual(product_rest((3, 4), (-5, 6), 8), ((-15, 10), (0, 0)))
        self.assertEqual(product_rest((0, 0), (-5, 6), 8), ((0, 0), (0, 0)))

    def test_many_sums(self):
        for width in WIDTHS:
            for one, other in sample_pairs(width):
                pair = sum_rest(one, other, width)
                self.check(pair, exact(one) + exact(other), width)
                self.assertEqual(sum_rest(other, one, width), pair)
                self.assertEqual(pair[0], added(one, other, width))

    def test_many_products(self):
        for width in WIDTHS:
            for one, other in sample_pairs(width):
                pair = product_rest(one, other, width)
                self.check(pair, exact(one) * exact(other), width)
                self.assertEqual(product_rest(other, one, width), pair)
                self.assertEqual(pair[0], multiplied(one, other, width))

    def test_by_steps_what_is_left(self):
        for width in WIDTHS:
            for one, other in sample_pairs(width):
                answer = rest_by_steps(one, other, width)
                self.check_number(answer, width)
                self.assertEqual(answer, sum_rest(one, other, width)[1], (one, other, width))

    def test_by_steps_written_out(self):
        self.assertEqual(rest_by_steps((1, 8), (1, 0), 8), (1, 0))
        self.assertEqual(rest_by_steps((1, 0), (1, 8), 8), (1, 0))
        self.assertEqual(rest_by_steps((3, 0), (1, 8), 8), (-1, 0))
        self.assertEqual(rest_by_steps((1, 1300), (-5, -1300), 8), (-5, -1300))
        self.assertEqual(rest_by_steps((-5, -1300), (1, 1300), 8), (-5, -1300))
        self.assertEqual(rest_by_steps((0, 0), (0, 0), 8), (0, 0))

    def test_all_powers_at_the_width_eight(self):
        wholes = [1, 3, 127, 129, 131, 191, 253, 255]
        for one in wholes:
            for other in wholes:
                for power in range(-20, 21):
                    for sign in (1, -1):
                        a, b = (one, 0), (sign * other, power)
                        pair = sum_rest(a, b, 8)
                        self.check(pair, exact(a) + exact(b), 8)
                        self.assertEqual(rest_by_steps(a, b, 8), pair[1])


class Halves(Plain):
    def check(self, number, width, few):
        pair = halves(number, width, few)
        self.check_pair(pair, width)
        self.check_number(pair[0], few)
        self.assertEqual(pair[0], nearest(exact(number), few), (number, width, few))
        self.assertEqual(exact(pair[0]) + exact(pair[1]), exact(number))
        self.assertLessEqual(abs(pair[1][0]), 2 ** (width - few - 1))

    def test_written_out(self):
        self.assertEqual(halves((257, 0), 9, 8), ((1, 8), (1, 0)))
        self.assertEqual(halves((259, 0), 9, 8), ((65, 2), (-1, 0)))
        self.assertEqual(halves((-259, 5), 9, 8), ((-65, 7), (1, 5)))
        self.assertEqual(halves((511, -3), 9, 8), ((1, 6), (-1, -3)))
        self.assertEqual(halves((3, -3), 9, 8), ((3, -3), (0, 0)))
        self.assertEqual(halves((1027, 0), 11, 8), ((1, 10), (3, 0)))
        self.assertEqual(halves((1029, 0), 11, 8), ((129, 3), (-3, 0)))

    def test_nought(self):
        for width in range(9, 65):
            for few in range(8, width):
                self.assertEqual(halves(NOUGHT, width, few), (NOUGHT, NOUGHT))

    def test_each_few(self):
        for width in WIDTHS[1:] + (10, 16, 32):
            numbers = [(sign * whole, power) for whole in sample_wholes(width) for power in (0, -1300, 1300)
                       for sign in (1, -1)]
            for few in range(8, width):
                step = 2 ** (width - few)
                midst = [(2 ** (width - 1) + more * step + step // 2, 0) for more in range(3)]
                midst += [(2 ** width - step // 2, 0)]
                for whole, power in midst:
                    for beside in (whole - 1, whole, whole + 1):
                        numbers.append(form_of(Fraction(beside)))
                for number in numbers:
                    if is_number(number, width):
                        self.check(number, width, few)

    def test_all_of_little_widths(self):
        for width in (9, 10, 11):
            for whole in range(1, 2 ** width, 2):
                for few in range(8, width):
                    self.check((whole, 0), width, few)
                    self.check((-whole, -4), width, few)

    def test_all_widths(self):
        dice = random.Random(32)
        for width in range(9, 65):
            for few in range(8, width):
                self.check(some_number(dice, width, -60, 60), width, few)
                self.check((2 ** width - 1, 3), width, few)
                self.check((-(2 ** (width - 1)) - 1, 3), width, few)


class NothingChanges(Plain):
    def test_asked_anew_tells_the_same(self):
        for function in (added, taken, multiplied, divided, sum_rest, product_rest, rest_by_steps):
            one, other = (201, -4), (-77, 3)
            first = function(one, other, 8)
            self.assertEqual(function(one, other, 8), first)
            self.assertEqual((one, other), ((201, -4), (-77, 3)))

    def test_asked_anew_behind_a_refusal(self):
        for _ in range(2):
            with self.assertRaises(NoRatio):
                divided((1, 0), NOUGHT, 8)
            with self.assertRaises(NoRoot):
                root((-1, 2), 8)
            self.assertEqual(divided((1, 0), (3, 0), 8), (171, -9))
            self.assertEqual(root((2, 1), 8), (181, -7))


if __name__ == "__main__":
    unittest.main()
