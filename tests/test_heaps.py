"""[40], [41] and, of the rows that keep a sum whole, [1]."""

import copy
import random
import unittest
from fractions import Fraction

from helper import WIDTHS, exact, form_of, nearest, sample_numbers, some_number
from trueline.heaps import grown, is_apart, kept_whole, sign_of
from trueline.numbers import is_number

NOUGHT = (0, 0)


def total(row):
    return sum([exact(number) for number in row], Fraction(0))


def apart_by_all_pairs(row):
    """As the document says it, of any two, by fractions."""
    for place, earlier in enumerate(row):
        for later in row[place + 1:]:
            if NOUGHT not in (earlier, later) and not abs(exact(earlier)) < Fraction(2) ** later[1]:
                return False
    return True


def grown_by_fractions(row, number, width):
    """Step by step as the document tells it: what is carried on, and what is left."""
    carried, told = exact(number), []
    for part in row:
        whole = carried + exact(part)
        carried = exact(nearest(whole, width))
        told.append(form_of(whole - carried))
    return told + [form_of(carried)]


def some_apart(dice, width, length):
    row, least = [], dice.randrange(-1200, -1000)
    for _ in range(length):
        if dice.randrange(4) == 0:
            row.append(NOUGHT)
        else:
            whole = dice.randrange(0, 2 ** (dice.randrange(1, width + 1) - 1)) * 2 + 1
            row.append((dice.choice((1, -1)) * whole, least))
            least += whole.bit_length() + dice.choice((0, 0, 0, 1, 5, 20))
    return row


def sample_rows(width):
    """Rows as measured, of one size, much cancelling, with noughts, far apart, of 0 to 60."""
    dice = random.Random(width + 40)
    rows = [[], [NOUGHT], [NOUGHT] * 5, [(1, 0)], [(-(2 ** width) + 1, -1300)]]
    for length in (2, 3, 7, 20, 60):
        rows.append([some_number(dice, width, -60, 60) for _ in range(length)])
        rows.append([some_number(dice, width, 0, 2) for _ in range(length)])
        rows.append([some_number(dice, width, -1200, 1200) for _ in range(length)])
        half = [some_number(dice, width, -60, 60) for _ in range((length + 1) // 2)]
        rows.append((half + [(-whole, power) for whole, power in reversed(half)])[:length])
        rows.append([dice.choice((NOUGHT, some_number(dice, width, -9, 9))) for _ in range(length)])
        rows.append([(2 ** width - 1, place * 3) for place in range(length)])
        rows.append([(2 ** width - 1, -place * 3) for place in range(length)])
    return rows


class Apart(unittest.TestCase):
    def test_the_empty_list_and_one(self):
        self.assertIs(is_apart([]), True)
        self.assertIs(is_apart([NOUGHT]), True)
        for width in WIDTHS:
            for number in sample_numbers(width)[::9]:
                self.assertIs(is_apart([number]), True)

    def test_noughts_among(self):
        self.assertIs(is_apart([NOUGHT, NOUGHT, NOUGHT]), True)
        self.assertIs(is_apart([NOUGHT, (1, -5), NOUGHT, NOUGHT, (1, 0), NOUGHT]), True)
        self.assertIs(is_apart([NOUGHT, (1, 0), NOUGHT, NOUGHT, (1, -5), NOUGHT]), False)
        self.assertIs(is_apart([(1, -5), NOUGHT, (1, -5)]), False)
        self.assertIs(is_apart([(1, 5), NOUGHT]), True)
        self.assertIs(is_apart([NOUGHT, (1, -5)]), True)

    def test_the_very_border(self):
        for width in WIDTHS:
            for sign in (1, -1):
                for other in (1, -1):
                    for far in (-1300 + width, -2, 0, 5, 1300 - width):
                        later = (other * 3, far)
                        self.assertIs(is_apart([(sign * (2 ** width - 1), far - width), later]), True)
                        self.assertIs(is_apart([(sign * (2 ** width - 1), far - width + 1), later]), False)
                        self.assertIs(is_apart([(sign, far - 1), later]), True)
                        self.assertIs(is_apart([(sign, far), later]), False)
                        self.assertIs(is_apart([(sign * 3, far - 2), later]), True)
                        self.assertIs(is_apart([(sign * 3, far - 1), later]), False)

    def test_not_neighbours_alone(self):
        self.assertIs(is_apart([(1, 0), (1, 1), (1, 2), (1, 3)]), True)
        self.assertIs(is_apart([(1, 0), (1, 2), (1, 1), (1, 3)]), False)
        self.assertIs(is_apart([(1, 3), NOUGHT, (1, 2), NOUGHT]), False)
        self.assertIs(is_apart([(1, 3), (1, 2), (1, 1)]), False)
        self.assertIs(is_apart([(3, 0), (1, 2), (5, 3), (-1, 6), (1, 6)]), False)

    def test_by_the_power_and_not_the_size(self):
        self.assertIs(is_apart([(1, 0), (129, 0)]), False)
        self.assertIs(is_apart([(1, 0), (129, 1)]), True)
        self.assertIs(is_apart([(5, 0), (1, 3)]), True)
        self.assertIs(is_apart([(5, 0), (9, 2)]), False)

    def test_by_reckoning(self):
        dice = random.Random(40)
        for width in WIDTHS:
            for _ in range(150):
                row = some_apart(dice, width, dice.randrange(0, 9))
                self.assertIs(is_apart(row), True, row)
                self.assertIs(apart_by_all_pairs(row), True)
                dice.shuffle(row)
                self.assertIs(is_apart(row), apart_by_all_pairs(row), row)
                other = [(dice.choice((1, -1, 3)), dice.randrange(-4, 5)) for _ in range(dice.randrange(4))]
                self.assertIs(is_apart(other), apart_by_all_pairs(other), other)

    def test_all_little_ones(self):
        numbers = [NOUGHT] + [(whole, power) for whole in (1, -3, 5) for power in (-1, 0, 1, 2, 3)]
        for one in numbers:
            for other in numbers:
                for third in numbers:
                    row = [one, other, third]
                    self.assertIs(is_apart(row), apart_by_all_pairs(row), row)


class Growing(unittest.TestCase):
    def check(self, row, number, width):
        before = list(row)
        told = grown(row, number, width)
        self.assertEqual(row, before)
        self.assertIs(type(told), list)
        self.assertIsNot(told, row)
        self.assertEqual(len(told), len(row) + 1)
        self.assertEqual(told, grown_by_fractions(row, number, width))
        self.assertEqual(total(told), total(row) + exact(number))
        for part in told:
            self.assertIs(type(part), tuple)
            self.assertTrue(is_number(part, width))
        return told

    def test_written_out(self):
        self.assertEqual(grown([], (5, 3), 8), [(5, 3)])
        self.assertEqual(grown([], NOUGHT, 8), [NOUGHT])
        self.assertEqual(grown([(1, 0)], (1, 8), 8), [(1, 0), (1, 8)])
        self.assertEqual(grown([(1, 8)], (1, 0), 8), [(1, 0), (1, 8)])
        self.assertEqual(grown([(1, 0), (1, 8)], (1, 0), 8), [NOUGHT, NOUGHT, (129, 1)])
        self.assertEqual(grown([(1, 0), (1, 8)], (3, 0), 8), [NOUGHT, NOUGHT, (65, 2)])
        self.assertEqual(grown([(1, 0), (1, 8)], (-1, 8), 8), [NOUGHT, NOUGHT, (1, 0)])
        self.assertEqual(grown([NOUGHT], (5, 3), 8), [NOUGHT, (5, 3)])
        self.assertEqual(grown([(1, -20), (1, 0)], (1, 8), 8), [(1, -20), (1, 0), (1, 8)])

    def test_from_lists_that_are_apart(self):
        dice = random.Random(41)
        for width in WIDTHS:
            for length in (0, 1, 2, 3, 5, 9, 20):
                for _ in range(12):
                    row = some_apart(dice, width, length)
                    middle = row[length // 2] if row else (1, 0)
                    numbers = [some_number(dice, width, -1100, -900), some_number(dice, width, -1300, 0), NOUGHT]
                    numbers += [middle, (-middle[0], middle[1]), some_number(dice, width, 0, 60)]
                    for number in numbers:
                        told = self.check(row, number, width)
                        self.assertTrue(is_apart(told), (row, number, width))
                        self.assertTrue(apart_by_all_pairs(told))

    def test_from_other_lists(self):
        dice = random.Random(42)
        for width in WIDTHS:
            for row in sample_rows(width):
                self.check(row, some_number(dice, width, -60, 60), width)
                self.check(row, NOUGHT, width)

    def test_all_little_lists(self):
        numbers = [NOUGHT] + [(whole, power) for whole in (1, -1, 3, 255, -255) for power in (-8, 0, 8)]
        for one in numbers:
            for other in numbers:
                for number in numbers:
                    told = self.check([one, other], number, 8)
                    if is_apart([one, other]):
                        self.assertTrue(is_apart(told))


class KeptWhole(unittest.TestCase):
    def test_the_empty_list(self):
        for width in WIDTHS:
            self.assertEqual(kept_whole([], width), [])

    def test_written_out(self):
        self.assertEqual(kept_whole([(5, 3)], 8), [(5, 3)])
        self.assertEqual(kept_whole([(1, 0), (1, 8)], 8), [(1, 0), (1, 8)])
        self.assertEqual(kept_whole([(1, 8), (1, 0), (-1, 8)], 8), [NOUGHT, NOUGHT, (1, 0)])
        self.assertEqual(kept_whole([NOUGHT, NOUGHT], 8), [NOUGHT, NOUGHT])

    def test_rows(self):
        for width in WIDTHS:
            for row in sample_rows(width):
                before = list(row)
                told = kept_whole(row, width)
                self.assertEqual(row, before)
                self.assertIs(type(told), list)
                self.assertEqual(len(told), len(row))
                self.assertEqual(total(told), total(row))
                self.assertTrue(is_apart(told), (row, width))
                self.assertTrue(apart_by_all_pairs(told))
                self.assertEqual(sign_of(told), (total(row) > 0) - (total(row) < 0))

    def test_grown_by_each_in_its_turn(self):
        for width in WIDTHS:
            for row in sample_rows(width):
                answer = []
                for number in row:
                    answer = grown_by_fractions(answer, number, width)
                self.assertEqual(kept_whole(row, width), answer)


class Sign(unittest.TestCase):
    def check(self, row, answer):
        told = sign_of(row)
        self.assertEqual(told, answer, row)
        self.assertIs(type(told), int)

    def test_noughts(self):
        self.check([], 0)
        self.check([NOUGHT], 0)
        self.check([NOUGHT, NOUGHT, NOUGHT], 0)

    def test_the_last_one(self):
        self.check([(1, 0)], 1)
        self.check([(-1, 0)], -1)
        self.check([(-1, 0), (1, 5)], 1)
        self.check([(1, 0), (-1, 5)], -1)
        self.check([(-127, 0), (-1, 7), (1, 8)], 1)

    def test_the_last_one_is_nought(self):
        self.check([(-1, 0), (1, 5), NOUGHT], 1)
        self.check([(1, 0), (-1, 5), NOUGHT, NOUGHT], -1)
        self.check([(-1, -1300), NOUGHT, NOUGHT], -1)
        self.check([NOUGHT, (3, 1300), NOUGHT], 1)

    def test_the_sign_of_the_sum(self):
        dice = random.Random(41)
        for width in WIDTHS:
            for length in range(30):
                row = some_apart(dice, width, length)
                self.check(row, (total(row) > 0) - (total(row) < 0))


class NothingChanges(unittest.TestCase):
    def test_what_is_handed_in_stays(self):
        row = [(1, -5), NOUGHT, (-3, 0), (1, 8)]
        before = copy.deepcopy(row)
        for _ in range(2):
            is_apart(row)
            sign_of(row)
            grown(row, (7, 2), 8)
            kept_whole(row, 8)
            self.assertEqual(row, before)

    def test_what_is_told_is_the_askers_own(self):
        row = [(1, -5), NOUGHT, (-3, 0), (1, 8)]
        for function in (lambda: grown(row, (7, 2), 8), lambda: kept_whole(row, 8), lambda: grown([], (1, 0), 8),
                         lambda: kept_whole([], 8), lambda: kept_whole([(5, 1)], 8)):
            first = function()
            before = list(first)
            first.append((9, 9))
            first[0] = (11, 11)
            self.assertEqual(function(), before)
        self.assertEqual(row, [(1, -5), NOUGHT, (-3, 0), (1, 8)])

    def test_what_is_done_to_the_row_later_changes_nothing_told(self):
        for width in WIDTHS:
            row = [(1, -5), NOUGHT, (-3, 0), (1, 8)]
            told = [grown(row, (7, 2), width), kept_whole(row, width), kept_whole(row[:1], width)]
            before = copy.deepcopy(told)
            row.append((5, 5))
            row[0] = (3, 3)
            self.assertEqual(told, before)


if __name__ == "__main__":
    unittest.main()
