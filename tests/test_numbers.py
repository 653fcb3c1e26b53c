"""[20] to [23] and, of the numbers, [1]."""

import bisect
import copy
import random
import unittest
from fractions import Fraction

from helper import around, exact, form_of, last_digit, nearest, sample_numbers, told
from trueline.errors import NoNext, TrueError
from trueline.numbers import (
    is_measure, is_number, is_width, lower, near, next_down, next_up, opposite, upper, value,
)

WIDTHS = (8, 53, 64)
OTHER_SORTS = [
    None, "", "8", "53", "(1, 0)", (), (1,), (1, 0, 0), (0, 0, 0), ((1, 0),), ((1, 0), 0), (1, (0, 0)),
    [], [1, 0], [0, 0], [(1, 0)], (None, 0), (1, None), ("1", 0), (1, "0"), ([1], 0), (1, [0]), [[]], (((),),),
]


class Widths(unittest.TestCase):
    def test_from_seven_to_sixty_five(self):
        for thing in range(7, 66):
            self.assertIs(is_width(thing), 8 <= thing <= 64, thing)

    def test_far_off(self):
        for thing in (0, 1, -8, -53, 128, 2 ** 70):
            self.assertIs(is_width(thing), False, thing)

    def test_other_sorts(self):
        for thing in OTHER_SORTS + [True, False, (53,), [53], (8, 64), "64"]:
            self.assertIs(is_width(thing), False, thing)


class Numbers(unittest.TestCase):
    def test_nought_has_one_form(self):
        for width in WIDTHS:
            self.assertIs(is_number((0, 0), width), True)
            for power in (1, -1, 5, -1300, 1300):
                self.assertIs(is_number((0, power), width), False)

    def test_odd_wholes_alone(self):
        for width in WIDTHS:
            for whole in range(-40, 41):
                for power in (-1300, -7, 1, 1300):
                    self.assertIs(is_number((whole, power), width), whole % 2 != 0, (whole, power))

    def test_the_bound_of_the_whole(self):
        for width in range(8, 65):
            for sign in (1, -1):
                self.assertIs(is_number((sign * (2 ** width - 1), 0), width), True)
                self.assertIs(is_number((sign * 2 ** width, 0), width), False)
                self.assertIs(is_number((sign * (2 ** width + 1), 0), width), False)
                self.assertIs(is_number((sign * (2 ** width - 2), 0), width), False)

    def test_a_number_of_each_greater_width(self):
        for width in range(8, 65):
            for few in range(8, 65):
                self.assertIs(is_number((2 ** few - 1, -9), width), few <= width)

    def test_any_power(self):
        for power in (10 ** 6, -(10 ** 6), 2 ** 100, -(2 ** 100)):
            self.assertIs(is_number((1, power), 8), True)
            self.assertIs(is_number((-255, power), 8), True)
            self.assertIs(is_number((257, power), 8), False)

    def test_truths_within(self):
        for thing in [(True, 0), (1, True), (1, False), (False, 0), (0, False), (False, False), (True, True)]:
            self.assertIs(is_number(thing, 53), False, thing)

    def test_other_sorts(self):
        for thing in OTHER_SORTS + [True, False, 0, 1, 5]:
            self.assertIs(is_number(thing, 53), False, thing)


class Values(unittest.TestCase):
    def test_written_out(self):
        cases = [
            ((0, 0), (0, 1)), ((1, 0), (1, 1)), ((-1, 0), (-1, 1)), ((3, 2), (12, 1)), ((-3, 2), (-12, 1)),
            ((3, -2), (3, 4)), ((-5, -1), (-5, 2)), ((1, 1300), (2 ** 1300, 1)), ((1, -1300), (1, 2 ** 1300)),
            ((-7, 1300), (-7 * 2 ** 1300, 1)), ((-7, -1300), (-7, 2 ** 1300)),
        ]
        for number, answer in cases:
            self.assertEqual(value(number), answer)

    def test_many(self):
        for width in WIDTHS:
            for number in sample_numbers(width):
                answer = value(number)
                self.assertEqual(answer, told(exact(number)))
                self.assertIs(type(answer), tuple)
                self.assertIs(type(answer[0]), int)
                self.assertIs(type(answer[1]), int)

    def test_each_power(self):
        for power in range(-1300, 1301):
            self.assertEqual(value((5, power)), (5 * 2 ** max(power, 0), 2 ** max(-power, 0)))


class Rounding(unittest.TestCase):
    def check(self, given, width):
        below, above = around(given, width)
        handed = told(given)
        answers = (lower(handed, width), near(handed, width), upper(handed, width))
        self.assertEqual(answers[0], form_of(below), (given, width))
        self.assertEqual(answers[1], nearest(given, width), (given, width))
        self.assertEqual(answers[2], form_of(above), (given, width))
        for answer in answers:
            self.assertTrue(is_number(answer, width))

    def check_both_signs(self, given, width):
        self.check(given, width)
        self.check(-given, width)

    def test_nought(self):
        for width in range(8, 65):
            for function in (near, lower, upper):
                self.assertEqual(function((0, 1), width), (0, 0))

    def test_written_out(self):
        self.assertEqual(near((1, 3), 8), (171, -9))
        self.assertEqual(lower((1, 3), 8), (85, -8))
        self.assertEqual(upper((1, 3), 8), (171, -9))
        self.assertEqual(near((-1, 3), 8), (-171, -9))
        self.assertEqual(lower((-1, 3), 8), (-171, -9))
        self.assertEqual(upper((-1, 3), 8), (-85, -8))
        self.assertEqual(near((257, 1), 8), (1, 8))
        self.assertEqual(near((259, 1), 8), (65, 2))
        self.assertEqual(near((511, 2), 8), (1, 8))
        self.assertEqual(near((509, 2), 8), (127, 1))
        self.assertEqual(near((2 ** 53 + 1, 1), 53), (1, 53))
        self.assertEqual(upper((2 ** 53 + 1, 1), 53), (2 ** 52 + 1, 1))
        self.assertEqual(near((2 ** 64 + 1, 1), 64), (1, 64))
        self.assertEqual(near((2 ** 64 + 3, 1), 64), (2 ** 62 + 1, 2))

    def test_numbers_of_the_width(self):
        for width in WIDTHS:
            for number in sample_numbers(width):
                for function in (near, lower, upper):
                    self.assertEqual(function(value(number), width), number)

    def test_the_midst_and_a_hair_beside(self):
        for width in WIDTHS:
            least = 2 ** (width - 1)
            for whole in (least, least + 1, least + 2, least + 3, 2 * least - 3, 2 * least - 2, 2 * least - 1):
                for scale in (Fraction(1), Fraction(2) ** 90, Fraction(1, 2 ** 90)):
                    midst = Fraction(2 * whole + 1, 2) * scale
                    self.check_both_signs(midst, width)
                    for hair in (Fraction(1, 10 ** 3), Fraction(1, 10 ** 40), Fraction(1, 3 ** 200)):
                        self.check_both_signs(midst + hair * scale, width)
                        self.check_both_signs(midst - hair * scale, width)

    def test_midst_goes_to_the_last_digit_nought(self):
        for width in WIDTHS:
            least = 2 ** (width - 1)
            even = near((4 * least + 1, 2), width)
            self.assertEqual(even, (1, width))
            odd = near((2 * least + 3, 2), width)
            self.assertEqual(exact(odd), least + 2)
            self.assertEqual(exact(near((-2 * least - 3, 2), width)), -least - 2)

    def test_just_below_a_power_of_two(self):
        for width in WIDTHS:
            for power in (-70, 0, 1, 70, 400):
                great = Fraction(2) ** power
                for part in (2 ** (width + 2), 2 ** (width + 5), 10 ** 60, 7 ** 150):
                    given = great * (1 - Fraction(1, part))
                    self.assertEqual(near(told(given), width), (1, power))
                    self.assertEqual(near(told(-given), width), (-1, power))
                    self.assertEqual(lower(told(given), width), (2 ** width - 1, power - width))
                    self.assertEqual(upper(told(given), width), (1, power))
                    self.check_both_signs(given, width)
                    self.check_both_signs(great * (1 + Fraction(1, part)), width)

    def test_a_hundred_digits_and_more(self):
        dice = random.Random(3)
        for width in WIDTHS:
            for digits in (1, 5, 30, 100, 150, 400):
                for _ in range(8):
                    top = dice.randrange(1, 10 ** digits)
                    self.check_both_signs(Fraction(top, dice.randrange(1, 10 ** digits)), width)
                    self.check_both_signs(Fraction(top), width)
                    self.check_both_signs(Fraction(1, top), width)

    def test_very_little_and_very_great(self):
        great = 2 ** 1400 - 1
        for width in WIDTHS:
            for given in (Fraction(great), Fraction(1, great), Fraction(great, 3), Fraction(5, great - 6)):
                self.check_both_signs(given, width)
            self.assertEqual(near((great, 1), width), (1, 1400))
            self.assertEqual(near((1, great), width), (1, -1400))
            self.assertEqual(lower((great, 1), width), (2 ** width - 1, 1400 - width))
            self.assertEqual(upper((-1, great), width), (-1, -1400))

    def test_small_ones_at_all_widths(self):
        for width in range(8, 65):
            for top, under in ((1, 3), (2, 3), (1, 10), (22, 7), (999, 1000), (1001, 1000), (12345678901, 11)):
                self.check_both_signs(Fraction(top, under), width)

    def test_against_all_numbers_of_the_width_eight(self):
        wholes = [sign * whole for whole in range(1, 256, 2) for sign in (1, -1)]
        numbers = [(whole, power) for whole in wholes for power in range(-14, 12)]
        numbers = sorted(numbers, key=exact)
        sizes = [exact(number) for number in numbers]
        dice = random.Random(8)
        for _ in range(1500):
            given = Fraction(dice.randrange(-2000, 2001) or 1, dice.choice((1, 2, 4, 8, 16, 7, 30, 64)))
            above = bisect.bisect_left(sizes, given)
            below = bisect.bisect_right(sizes, given) - 1
            self.assertEqual(lower(told(given), 8), numbers[below])
            self.assertEqual(upper(told(given), 8), numbers[above])
            pair = sorted(
                (numbers[below], numbers[above]),
                key=lambda number: (abs(exact(number) - given), last_digit(number, 8)),
            )
            self.assertEqual(near(told(given), 8), pair[0])

    def test_as_python_divides_at_the_width_fifty_three(self):
        dice = random.Random(53)
        for _ in range(1000):
            top = dice.randrange(-(2 ** dice.randrange(1, 300)), 2 ** dice.randrange(1, 300))
            under = dice.randrange(1, 2 ** dice.randrange(1, 300))
            answer = Fraction(*(top / under).as_integer_ratio())
            self.assertEqual(near(told(Fraction(top, under)), 53), form_of(answer))


class Neighbours(unittest.TestCase):
    def test_written_out(self):
        cases = [
            ((1, 0), (129, -7), (255, -8)), ((-1, 0), (-255, -8), (-129, -7)),
            ((255, 0), (1, 8), (127, 1)), ((-255, 0), (-127, 1), (-1, 8)),
            ((127, 1), (255, 0), (253, 0)), ((129, 0), (65, 1), (1, 7)),
            ((-129, 0), (-1, 7), (-65, 1)), ((3, 0), (193, -6), (191, -6)),
            ((1, 8), (129, 1), (255, 0)), ((1, -1300), (129, -1307), (255, -1308)),
        ]
        for number, up, down in cases:
            self.assertEqual(next_up(number, 8), up)
            self.assertEqual(next_down(number, 8), down)

    def test_powers_of_two_and_the_greatest_whole(self):
        for width in range(8, 65):
            greatest = 2 ** width - 1
            for power in (-1300, -3, 0, 40, 1300):
                self.assertEqual(next_up((greatest, power), width), (1, power + width))
                self.assertEqual(next_down((1, power), width), (greatest, power - width))
                self.assertEqual(next_up((1, power), width), (2 ** (width - 1) + 1, power - width + 1))
                self.assertEqual(next_down((-greatest, power), width), (-1, power + width))
                self.assertEqual(next_up((-1, power), width), (-greatest, power - width))
                self.assertEqual(next_down((-1, power), width), (-(2 ** (width - 1)) - 1, power - width + 1))

    def test_many(self):
        for width in WIDTHS:
            for number in sample_numbers(width):
                up, down = next_up(number, width), next_down(number, width)
                self.assertTrue(is_number(up, width))
                self.assertTrue(is_number(down, width))
                self.assertLess(exact(down), exact(number))
                self.assertLess(exact(number), exact(up))
                self.assertEqual(next_down(up, width), number)
                self.assertEqual(next_up(down, width), number)
                # Between the two no other number lies: both midsts have these alone around them.
                for beside in (up, down):
                    ends = sorted((exact(number), exact(beside)))
                    self.assertEqual(around(sum(ends) / 2, width), tuple(ends))

    def test_all_of_the_width_eight(self):
        wholes = list(range(1, 256, 2))
        for sign in (1, -1):
            numbers = [(sign * whole, power) for whole in wholes for power in range(-14, 14)]
            numbers = sorted(numbers, key=exact)
            # At the ends of what is listed the least ones and the greatest ones have gaps.
            inner = [k for k, number in enumerate(numbers) if 2 ** -6 < abs(exact(number)) < 2 ** 13]
            for k in inner:
                self.assertEqual(next_up(numbers[k], 8), numbers[k + 1])
                self.assertEqual(next_down(numbers[k], 8), numbers[k - 1])

    def test_nought_has_none(self):
        for width in range(8, 65):
            for function in (next_up, next_down):
                with self.assertRaises(NoNext):
                    function((0, 0), width)

    def test_no_next_is_a_true_error(self):
        with self.assertRaises(TrueError):
            next_up((0, 0), 53)

    def test_opposite(self):
        self.assertEqual(opposite((0, 0)), (0, 0))
        self.assertEqual(opposite((3, -5)), (-3, -5))
        self.assertEqual(opposite((-3, 1300)), (3, 1300))
        for width in WIDTHS:
            for number in sample_numbers(width):
                self.assertEqual(exact(opposite(number)), -exact(number))
                self.assertTrue(is_number(opposite(number), width))
                self.assertEqual(opposite(opposite(number)), number)


class Measures(unittest.TestCase):
    def test_nought(self):
        for width in range(8, 65):
            self.assertIs(is_measure((0, 0), width), True)

    def test_the_bounds(self):
        for width in range(8, 65):
            for sign in (1, -1):
                for power in (60, -60, 59, -59, 0):
                    self.assertIs(is_measure((sign, power), width), True)
                for power in (61, -61, 62, -62, 300, -300):
                    self.assertIs(is_measure((sign, power), width), False)

    def test_just_beside_the_bounds(self):
        for width in range(8, 65):
            greatest, beyond = 2 ** width - 1, 2 ** (width - 1) + 1
            for sign in (1, -1):
                self.assertIs(is_measure((sign * greatest, 60 - width), width), True)
                self.assertIs(is_measure((sign * beyond, 61 - width), width), False)
                self.assertIs(is_measure((sign * beyond, -59 - width), width), True)
                self.assertIs(is_measure((sign * greatest, -60 - width), width), False)
                self.assertIs(is_measure((sign * greatest, 61 - width), width), False)
                self.assertIs(is_measure((sign * 3, 58), width), True)
                self.assertIs(is_measure((sign * 3, 59), width), False)
                self.assertIs(is_measure((sign * 3, -61), width), True)
                self.assertIs(is_measure((sign * 3, -62), width), False)

    def test_by_reckoning(self):
        for width in WIDTHS:
            for whole, power in sample_numbers(width):
                for shifted in (power, 60 - abs(whole).bit_length(), -60 - abs(whole).bit_length()):
                    for close in (shifted - 1, shifted, shifted + 1):
                        size = abs(exact((whole, close)))
                        expected = Fraction(1, 2 ** 60) <= size <= 2 ** 60
                        self.assertIs(is_measure((whole, close), width), expected)

    def test_powers_beyond_all_reckoning(self):
        for power in (2 ** 100, -(2 ** 100)):
            self.assertIs(is_measure((1, power), 53), False)
            self.assertIs(is_measure((-3, power), 53), False)

    def test_no_numbers_of_the_width(self):
        things = [(2, 0), (0, 1), (0, -1), (257, 0), (-257, -4), (256, 0), (True, 0), (1, False), (False, 0), (0, False)]
        for thing in OTHER_SORTS + things + [True, False, 0, 1, 2 ** 60]:
            self.assertIs(is_measure(thing, 8), False, thing)
        self.assertIs(is_measure((257, 0), 9), True)
        self.assertIs(is_measure((2 ** 53 + 1, 0), 53), False)
        self.assertIs(is_measure((2 ** 53 + 1, 0), 54), True)


class NothingChanges(unittest.TestCase):
    def test_things_handed_in_stay(self):
        things = [[1, 0], [[3], [2, [3]]], ([1], [0]), (1, [0]), [None, "a", (True, [False])]]
        for thing in things:
            before = copy.deepcopy(thing)
            is_width(thing)
            is_number(thing, 53)
            is_measure(thing, 53)
            self.assertEqual(thing, before)

    def test_asked_anew_tells_the_same(self):
        for _ in range(2):
            with self.assertRaises(NoNext):
                next_up((0, 0), 8)
            self.assertEqual(near((1, 3), 8), (171, -9))
            self.assertEqual(lower((1, 3), 8), (85, -8))
            self.assertEqual(upper((1, 3), 8), (171, -9))
            self.assertEqual(next_up((1, 0), 8), (129, -7))
            self.assertEqual(next_down((1, 0), 8), (255, -8))
            self.assertEqual(value((3, -2)), (3, 4))

    def test_kinds(self):
        for function in (near, lower, upper):
            for given in ((0, 1), (1, 3), (-22, 7)):
                self.check_kind(function(given, 53))
        for function in (next_up, next_down):
            self.check_kind(function((-5, 3), 53))
        self.check_kind(opposite((0, 0)))
        self.check_kind(opposite((5, 3)))

    def check_kind(self, number):
        self.assertIs(type(number), tuple)
        self.assertEqual([type(part) for part in number], [int, int])


if __name__ == "__main__":
    unittest.main()
