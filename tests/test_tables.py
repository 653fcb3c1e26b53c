"""[70], [71], [72], of the middle the last sentence of [60], and, of tables, [1] and [2]."""

import copy
import random
import unittest
from fractions import Fraction

from helper import (
    WIDTHS, asked, exact, form_of, fractions, little_table, nearest, opposites, refused, sample_measures, sample_rows,
    sample_tables, some_number, some_row, some_table,
)
from trueline.errors import Unfit
from trueline.numbers import is_number
from trueline.tables import column, is_row, is_table, least_place, middle, ordered, product, rising, turned

NOUGHT = (0, 0)
ONE = (1, 0)


def no_measures(width):
    """Things that are no measure of a width, among them such that are nearly one."""
    wide = (2 ** width + 1, -width)
    return [
        wide, (-wide[0], wide[1]), (1, 61), (-1, 61), (1, -61), (3, 59), (3, -62), (2, 0), (4, -2), (0, 1), (0, -1),
        [1, 0], [0, 0], (True, 0), (1, False), (False, 0), (False, False), (True, True), (1,), (), (1, 0, 0), [],
        ("1", 0), (1, "0"), (1, None), (None, None), ((1, 0), 0), 0, 1, True, False, None, "", "1", "(1, 0)",
        [(1, 0)], ((1, 0), (1, 0)),
    ]


class TableCase(unittest.TestCase):
    def check_is(self, function, thing, width, answer):
        self.assertIs(asked(self, function, thing, width), answer, (thing, width))


class IsRow(TableCase):
    def test_good_ones(self):
        for width in WIDTHS:
            for row in sample_rows(width) + [sample_measures(width), [NOUGHT], [NOUGHT] * 60, [ONE] * 59]:
                self.check_is(is_row, row, width, True)
            for count in range(1, 61):
                self.check_is(is_row, [(-1, 60)] * count, width, True)

    def test_of_a_lesser_width(self):
        for row in sample_rows(8):
            for width in WIDTHS:
                self.check_is(is_row, row, width, True)

    def test_a_greater_width(self):
        for width in WIDTHS:
            wide = (2 ** width + 1, -width)
            for row in ([wide], [ONE, wide], [wide, ONE], [ONE] * 59 + [wide]):
                self.check_is(is_row, row, width, False)
                if width < 64:
                    self.check_is(is_row, row, width + 1, True)

    def test_counts(self):
        for width in WIDTHS:
            for count in (0, 61, 62, 120):
                self.check_is(is_row, [ONE] * count, width, False)

    def test_one_that_is_no_measure(self):
        for width in WIDTHS:
            for thing in no_measures(width):
                for row in ([thing], [thing, ONE], [ONE, thing], [ONE, thing, ONE], [NOUGHT] * 59 + [thing]):
                    self.check_is(is_row, row, width, False)

    def test_no_lists(self):
        for width in WIDTHS:
            for thing in no_measures(width) + [ONE, NOUGHT, (ONE,), (ONE, ONE), ((ONE,),), "row", 60, -1]:
                self.check_is(is_row, thing, width, thing == [(1, 0)])

    def test_a_table_is_no_row(self):
        for width in WIDTHS:
            for table in ([[ONE]], [[ONE, ONE]], [[ONE], [ONE]], [[[ONE]]]):
                self.check_is(is_row, table, width, False)


class IsTable(TableCase):
    def test_good_ones(self):
        for width in WIDTHS:
            for table in sample_tables(width):
                self.check_is(is_table, table, width, True)
            for rows in (1, 2, 59, 60):
                for columns in range(1, 7):
                    self.check_is(is_table, [[NOUGHT] * columns for _ in range(rows)], width, True)

    def test_of_a_lesser_width(self):
        for table in sample_tables(8):
            for width in WIDTHS:
                self.check_is(is_table, table, width, True)

    def test_the_same_row_twice(self):
        row = [ONE, NOUGHT]
        self.check_is(is_table, [row, row], 8, True)

    def test_counts(self):
        for width in WIDTHS:
            for rows, columns in ((0, 0), (1, 0), (60, 0), (61, 1), (61, 6), (1, 7), (60, 7), (1, 60), (61, 7)):
                self.check_is(is_table, [[ONE] * columns for _ in range(rows)], width, False)

    def test_rows_of_unlike_length(self):
        for width in WIDTHS:
            for lengths in ((1, 2), (2, 1), (6, 5), (5, 6), (3, 3, 2), (2, 3, 3), (3, 2, 3), (6, 7), (7, 6), (1, 60)):
                self.check_is(is_table, [[ONE] * length for length in lengths], width, False)
            self.check_is(is_table, [[ONE] * 3 for _ in range(59)] + [[ONE] * 2], width, False)

    def test_a_row_that_is_none(self):
        for width in WIDTHS:
            nones = [[], (), (ONE,), (ONE, ONE), None, True, False, "", "a", 0, 1, ONE, [None], [True], ["1"], [[ONE]]]
            for thing in nones:
                for table in ([thing], [thing, [ONE]], [[ONE], thing], [[ONE], thing, [ONE]], [[ONE]] * 59 + [thing]):
                    self.check_is(is_table, table, width, False)

    def test_one_that_is_no_measure(self):
        for width in WIDTHS:
            for thing in no_measures(width):
                for table in ([[thing]], [[ONE, thing]], [[ONE, ONE], [thing, ONE]], [[ONE, ONE], [ONE, thing]]):
                    self.check_is(is_table, table, width, False)

    def test_no_lists(self):
        for width in WIDTHS:
            for thing in no_measures(width) + [ONE, ([ONE],), ([ONE], [ONE]), ((ONE,),), "table", [ONE, ONE], 60]:
                self.check_is(is_table, thing, width, False)


class Columns(TableCase):
    def test_written_out(self):
        table = [[ONE, (3, 0), NOUGHT], [(-1, 5), (1, -7), (7, 2)]]
        self.assertEqual(column(table, 0), [ONE, (-1, 5)])
        self.assertEqual(column(table, 1), [(3, 0), (1, -7)])
        self.assertEqual(column(table, 2), [NOUGHT, (7, 2)])
        self.assertEqual(turned(table), [[ONE, (-1, 5)], [(3, 0), (1, -7)], [NOUGHT, (7, 2)]])
        self.assertEqual(turned([[ONE, (3, 0)]]), [[ONE], [(3, 0)]])
        self.assertEqual(turned([[ONE], [(3, 0)]]), [[ONE, (3, 0)]])
        self.assertEqual(turned([[ONE]]), [[ONE]])

    def test_tables(self):
        for width in WIDTHS:
            for table in sample_tables(width):
                columns = [list(numbers) for numbers in zip(*table)]
                self.assertEqual(asked(self, turned, table), columns)
                for place, numbers in enumerate(columns):
                    self.assertEqual(asked(self, column, table, place), numbers)
                    self.assertIs(type(column(table, place)), list)
                self.assertEqual(turned(turned(table)), table)

    def test_what_is_told_is_the_askers_own(self):
        table = [[ONE, (3, 0)], [(5, 0), (7, 0)]]
        before = copy.deepcopy(table)
        for _ in range(2):
            answer, numbers = turned(table), column(table, 1)
            self.assertEqual(answer, [[ONE, (5, 0)], [(3, 0), (7, 0)]])
            self.assertEqual(numbers, [(3, 0), (7, 0)])
            answer[0][1] = NOUGHT
            answer[1].append(NOUGHT)
            answer.pop()
            numbers[0] = NOUGHT
            numbers.append(NOUGHT)
            self.assertEqual(table, before)

    def test_what_is_done_to_the_table_later_changes_nothing_told(self):
        table = [[ONE, (3, 0)], [(5, 0), (7, 0)]]
        answer, numbers = turned(table), column(table, 0)
        table[0][0] = NOUGHT
        table[1].append(NOUGHT)
        table.append([ONE, ONE])
        self.assertEqual(answer, [[ONE, (5, 0)], [(3, 0), (7, 0)]])
        self.assertEqual(numbers, [ONE, (5, 0)])


class Product(TableCase):
    def check(self, table, other, width):
        answer = asked(self, product, table, other, width)
        self.assertIs(type(answer), list)
        self.assertEqual(len(answer), len(table))
        for row, told in zip(table, answer):
            self.assertIs(type(told), list)
            self.assertEqual(len(told), len(other[0]))
            for numbers, number in zip(zip(*other), told):
                whole = sum([x * y for x, y in zip(fractions(row), fractions(numbers), strict=True)])
                self.assertEqual(number, nearest(whole, width))
                self.assertTrue(is_number(number, width))
        return answer

    def test_written_out(self):
        self.assertEqual(product([[ONE, (1, 1)]], [[(3, 0)], [(5, 0)]], 8), [[(13, 0)]])
        self.assertEqual(
            product([[ONE], [(1, 1)]], [[(3, 0), (5, 0)]], 8), [[(3, 0), (5, 0)], [(3, 1), (5, 1)]],
        )
        self.assertEqual(
            product([[ONE, (1, 1)], [(3, 0), (1, 2)]], [[(5, 0), (3, 1)], [(7, 0), (1, 3)]], 8),
            [[(19, 0), (11, 1)], [(43, 0), (25, 1)]],
        )
        self.assertEqual(product([[(255, 0)]], [[(255, 0)]], 8), [[(127, 9)]])
        self.assertEqual(product([[(1, 60), ONE, (1, 60)]], [[(1, 60)], [(3, 0)], [(-1, 60)]], 8), [[(3, 0)]])

    def test_tables(self):
        for width in WIDTHS:
            tables = sample_tables(width)
            found = 0
            for table in tables[::2]:
                for other in [other for other in tables[::3] if len(other) == len(table[0])]:
                    self.check(table, other, width)
                    found += 1
            self.assertGreater(found, 40)

    def test_the_greatest(self):
        for width in WIDTHS:
            dice = random.Random(width + 71)
            table = some_table(dice, width, 60, 6, -60, 60)
            self.check(table, some_table(dice, width, 6, 6, -60, 60), width)
            self.check(table, some_table(dice, width, 6, 1, -60, 60), width)

    def test_one_row_and_one_column(self):
        for width in WIDTHS:
            dice = random.Random(width + 72)
            for count in range(1, 7):
                row = some_table(dice, width, 1, count, -9, 9)
                numbers = some_table(dice, width, count, 1, -9, 9)
                self.check(row, numbers, width)
                self.check(numbers, row, width)
                self.check(row, some_table(dice, width, count, 6, -9, 9), width)
                self.check(some_table(dice, width, 60, count, -9, 9), numbers, width)

    def test_much_cancels(self):
        for width in WIDTHS:
            dice = random.Random(width + 73)
            for _ in range(20):
                half = some_row(dice, width, 2, -60, 60)
                other = some_row(dice, width, 2, -60, 60)
                row = half + [(3, -60), NOUGHT] + half
                numbers = opposites(other) + [ONE, (1, 60)] + other
                answer = self.check([row], [[number] for number in numbers], width)
                self.assertEqual(answer, [[(3, -60)]])

    def test_in_the_midst_of_two_and_a_hair_beside(self):
        for width in WIDTHS:
            for whole in (2 ** (width - 1) + 1, 2 ** width - 1):
                row = [(whole, 1 - width), (1, -width), (1, -60)]
                for hair in (NOUGHT, (1, -60), (-1, -60)):
                    numbers = [[ONE, (-1, 0)], [ONE, (-1, 0)], [hair, hair]]
                    self.check([row], numbers, width)

    def test_by_the_table_that_changes_nothing(self):
        for width in WIDTHS:
            for table in sample_tables(width):
                count = len(table[0])
                unit = [[ONE if place == at else NOUGHT for place in range(count)] for at in range(count)]
                self.assertEqual(product(table, unit, width), table)

    def test_rounded_once(self):
        found = 0
        dice = random.Random(74)
        for width in WIDTHS:
            for _ in range(50):
                table, other = some_table(dice, width, 1, 6, -2, 2), some_table(dice, width, 6, 1, -2, 2)
                answer = self.check(table, other, width)[0][0]
                steps = Fraction(0)
                for x, (y,) in zip(table[0], other):
                    steps = exact(nearest(steps + exact(nearest(exact(x) * exact(y), width)), width))
                found += form_of(steps) != answer
        self.assertGreater(found, 0)

    def test_unfit(self):
        for width in WIDTHS:
            for rows, columns, others in ((1, 1, 2), (1, 2, 1), (3, 2, 3), (2, 3, 2), (6, 6, 60), (60, 6, 5)):
                table = [[ONE] * columns for _ in range(rows)]
                for beside in (1, columns, 6):
                    refused(self, Unfit, product, table, [[ONE] * beside for _ in range(others)], width)

    def test_what_is_told_is_the_askers_own(self):
        table, other = [[ONE, (3, 0)], [(5, 0), (7, 0)]], [[ONE, NOUGHT], [NOUGHT, ONE]]
        for _ in range(2):
            answer = asked(self, product, table, other, 8)
            self.assertEqual(answer, [[ONE, (3, 0)], [(5, 0), (7, 0)]])
            answer[0][0] = NOUGHT
            answer[1].append(NOUGHT)
            answer.pop()
        self.assertEqual(table, [[ONE, (3, 0)], [(5, 0), (7, 0)]])
        self.assertEqual(other, [[ONE, NOUGHT], [NOUGHT, ONE]])


class LeastPlace(TableCase):
    def check(self, table):
        least = min([min(fractions(row)) for row in table])
        places = [(at, place) for at in range(len(table)) for place in range(len(table[0]))]
        firsts = [(at, place) for at, place in places if exact(table[at][place]) == least]
        answer = asked(self, least_place, table)
        self.assertEqual(answer, firsts[0])
        self.assertIs(type(answer), tuple)
        self.assertEqual([type(place) for place in answer], [int, int])

    def test_written_out(self):
        self.assertEqual(least_place([[ONE]]), (0, 0))
        self.assertEqual(least_place([[ONE, (-1, 0)], [(-3, 0), NOUGHT]]), (1, 0))
        self.assertEqual(least_place([[(3, 0), ONE], [ONE, (3, 0)], [ONE, ONE]]), (0, 1))
        self.assertEqual(least_place([[(3, 0), (5, 0)], [(5, 0), ONE], [ONE, ONE]]), (1, 1))
        self.assertEqual(least_place([[(1, -60), NOUGHT, (-1, -60)], [(1, -60), (-1, -60), NOUGHT]]), (0, 2))
        self.assertEqual(least_place([[(1, 60), (1, 4), (15, 0)]]), (0, 2))
        self.assertEqual(least_place([[(-1, 60), (-1, 4), (-15, 0)]]), (0, 0))

    def test_tables(self):
        for width in WIDTHS:
            for table in sample_tables(width):
                self.check(table)
                self.check([opposites(row) for row in table])

    def test_several_times(self):
        dice = random.Random(75)
        for rows, columns in ((1, 6), (6, 1), (2, 3), (3, 2), (60, 6), (60, 1)):
            for _ in range(20):
                self.check(little_table(dice, rows, columns))
            self.assertEqual(least_place([[(-5, 3)] * columns for _ in range(rows)]), (0, 0))

    def test_at_each_place(self):
        for rows, columns in ((1, 6), (6, 1), (2, 3), (60, 6)):
            for at in range(rows):
                for place in range(columns):
                    table = [[NOUGHT] * columns for _ in range(rows)]
                    table[at][place] = (-1, -60)
                    self.assertEqual(least_place(table), (at, place))

    def test_by_a_last_digit(self):
        for width in WIDTHS:
            whole = 2 ** width - 3
            self.assertEqual(least_place([[(whole + 2, -width), (whole, -width)], [(whole, -width), ONE]]), (0, 1))
            self.assertEqual(least_place([[(-whole, -width), (-whole - 2, -width)], [NOUGHT, ONE]]), (0, 1))


def rising_by_all_pairs(row):
    """Each one behind all that are less, and behind the equal ones at lesser places."""
    values = fractions(row)
    order = [None] * len(row)
    for place, own in enumerate(values):
        ahead = [at for at, other in enumerate(values) if other < own or (other == own and at < place)]
        order[len(ahead)] = place
    return order


class Rising(TableCase):
    def check(self, row):
        answer = asked(self, rising, row)
        self.assertEqual(answer, rising_by_all_pairs(row))
        self.assertIs(type(answer), list)
        self.assertEqual([type(place) for place in answer], [int] * len(row))

    def test_written_out(self):
        self.assertEqual(rising([ONE]), [0])
        self.assertEqual(rising([(3, 0), ONE, (1, 1)]), [1, 2, 0])
        self.assertEqual(rising([ONE, NOUGHT, (-1, 0), ONE, NOUGHT]), [2, 1, 4, 0, 3])
        self.assertEqual(rising([(1, 60), (3, 1), (7, 0), (-1, -60), (-1, 60)]), [4, 3, 1, 2, 0])
        self.assertEqual(rising([ONE] * 60), list(range(60)))

    def test_rows(self):
        for width in WIDTHS:
            for row in sample_rows(width) + [sample_measures(width)]:
                self.check(row)
                self.check(row[::-1])
                self.check(opposites(row))

    def test_equal_ones_among(self):
        dice = random.Random(76)
        for length in (1, 2, 3, 4, 5, 10, 59, 60):
            for _ in range(20):
                self.check(little_table(dice, 1, length)[0])

    def test_by_a_last_digit(self):
        for width in WIDTHS:
            wholes = [2 ** width - 1, 2 ** width - 3, 2 ** (width - 1) + 1, 2 ** (width - 1) - 1]
            row = [(sign * whole, -width) for whole in wholes for sign in (1, -1)] + [(1, -1), (-1, -1), ONE]
            self.check(row)

    def test_what_is_told_is_the_askers_own(self):
        row = [ONE, NOUGHT]
        for _ in range(2):
            answer = rising(row)
            self.assertEqual(answer, [1, 0])
            answer.append(2)
            answer[0] = 7


class Ordered(TableCase):
    def check(self, table, place):
        answer = asked(self, ordered, table, place)
        numbers = [row[place] for row in table]
        self.assertEqual(answer, [table[at] for at in rising_by_all_pairs(numbers)])
        self.assertIs(type(answer), list)
        for told in answer:
            self.assertIs(type(told), list)
            self.assertTrue(all(told is not row for row in table))

    def test_written_out(self):
        table = [[(3, 0), ONE], [ONE, (5, 0)], [(3, 0), NOUGHT], [NOUGHT, (5, 0)]]
        self.assertEqual(ordered(table, 0), [table[3], table[1], table[0], table[2]])
        self.assertEqual(ordered(table, 1), [table[2], table[0], table[1], table[3]])

    def test_tables(self):
        for width in WIDTHS:
            for table in sample_tables(width):
                for place in range(len(table[0])):
                    self.check(table, place)

    def test_equal_ones_among(self):
        dice = random.Random(77)
        for rows in (1, 2, 5, 30, 60):
            for _ in range(5):
                table = little_table(dice, rows, 6)
                for place in range(6):
                    self.check(table, place)

    def test_what_is_told_is_the_askers_own(self):
        table = [[ONE, (3, 0)], [NOUGHT, (7, 0)]]
        for _ in range(2):
            answer = asked(self, ordered, table, 0)
            self.assertEqual(answer, [[NOUGHT, (7, 0)], [ONE, (3, 0)]])
            answer[0][0] = (9, 0)
            answer[1].append(NOUGHT)
            answer.pop()
            self.assertEqual(table, [[ONE, (3, 0)], [NOUGHT, (7, 0)]])

    def test_a_row_that_stands_twice(self):
        row = [ONE, NOUGHT]
        answer = ordered([row, row], 0)
        answer[0][0] = (3, 0)
        self.assertEqual(answer, [[(3, 0), NOUGHT], [ONE, NOUGHT]])
        self.assertEqual(row, [ONE, NOUGHT])

    def test_what_is_done_to_the_table_later_changes_nothing_told(self):
        table = [[ONE, (3, 0)], [NOUGHT, (7, 0)]]
        answer = ordered(table, 1)
        table[0][0] = (9, 0)
        table[1].pop()
        self.assertEqual(answer, [[ONE, (3, 0)], [NOUGHT, (7, 0)]])


class Middle(TableCase):
    def check(self, row, width):
        values = sorted(fractions(row))
        count = len(values)
        half = (values[(count - 1) // 2] + values[count // 2]) / 2
        answer = asked(self, middle, row, width)
        self.assertEqual(answer, nearest(half, width))
        self.assertIs(type(answer), tuple)
        self.assertTrue(is_number(answer, width))
        return answer

    def test_written_out(self):
        self.assertEqual(middle([(3, 0)], 8), (3, 0))
        self.assertEqual(middle([(3, 0), ONE], 8), (1, 1))
        self.assertEqual(middle([(3, 0), NOUGHT, ONE], 8), ONE)
        self.assertEqual(middle([(5, 0), (3, 0), NOUGHT, ONE], 8), (1, 1))
        self.assertEqual(middle([(1, 60), ONE, (-1, 60), (-1, 0)], 8), NOUGHT)
        self.assertEqual(middle([(1, 8), ONE], 8), (1, 7))
        self.assertEqual(middle([(1, 8), (3, 0)], 8), (65, 1))
        self.assertEqual(middle([(1, 60), (1, -60)], 8), (1, 59))

    def test_rows(self):
        for width in WIDTHS:
            for row in sample_rows(width):
                for part in (row, row[:-1], row[:2]):
                    if part:
                        self.check(part, width)

    def test_every_count(self):
        for width in WIDTHS:
            dice = random.Random(width + 78)
            for count in range(1, 61):
                row = some_row(dice, width, count, -3, 3)
                answer = self.check(row, width)
                if count % 2 == 1:
                    self.assertIn(answer, row)

    def test_equal_ones(self):
        dice = random.Random(79)
        for width in WIDTHS:
            for count in (1, 2, 3, 4, 59, 60):
                number = some_number(dice, width, -60, 60)
                self.assertEqual(middle([number] * count, width), number)
                for _ in range(10):
                    self.check(little_table(dice, 1, count)[0], width)

    def test_with_all_signs_turned(self):
        for width in WIDTHS:
            for row in sample_rows(width):
                whole, power = middle(row, width)
                self.assertEqual(self.check(opposites(row), width), (-whole, power))

    def test_in_another_order(self):
        for width in WIDTHS:
            dice = random.Random(width + 80)
            for row in sample_rows(width):
                first = middle(row, width)
                for _ in range(3):
                    other = list(row)
                    dice.shuffle(other)
                    self.assertEqual(asked(self, middle, other, width), first)
                self.assertEqual(middle(row[::-1], width), first)
                self.assertEqual(middle(sorted(row, key=exact), width), first)

    def test_in_the_midst_of_two_and_a_hair_beside(self):
        for width in WIDTHS:
            for whole in (2 ** (width - 1) + 1, 2 ** (width - 1) + 3, 2 ** width - 1, 2 ** width - 3):
                # Between two that are next to one another, and between such whose half lies a hair beside that.
                self.check([(whole, -width), form_of(Fraction(whole + 1, 2 ** width))], width)
                self.check([(whole, -width), form_of(Fraction(whole - 1, 2 ** width))], width)
                self.check([(whole, 1 - width), (1, -width)], width)
                self.check([(whole, 1 - width), (-1, -60)], width)
                self.check([(whole, 1 - width), (1, -60)], width)

    def test_opposites(self):
        for width in WIDTHS:
            for number in sample_measures(width):
                self.assertEqual(middle([number] + opposites([number]), width), NOUGHT)
                self.assertEqual(middle([number, NOUGHT] + opposites([number]), width), NOUGHT)


if __name__ == "__main__":
    unittest.main()
