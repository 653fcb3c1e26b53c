"""[90], [91], of lines the last sentence of [60], and, of lines and fits, [1] and [2]."""

import itertools
import random
import unittest
from fractions import Fraction

from helper import (
    WIDTHS, asked, check_weights, form_of, fractions, little_table, opposites, refused, sample_measures,
    sample_rows, sample_tables, some_number, some_row, some_table, told,
)
from trueline.errors import Dependent, NoLine
from trueline.fits import fitted, line_of, misses, residues
from trueline.ratios import is_ratio, plus

NOUGHT = (0, 0)
ONE = (1, 0)


def wholes(numbers):
    return [form_of(Fraction(number)) for number in numbers]


def table_of(*columns):
    return [list(numbers) for numbers in zip(*columns, strict=True)]


def line_by_means(row, other):
    """By what each one is off from the mean, as lines are commonly told; None where there is none."""
    xs, ys = fractions(row), fractions(other)
    mean, mean_other = sum(xs) / len(xs), sum(ys) / len(ys)
    under = sum([(x - mean) ** 2 for x in xs])
    if under == 0:
        return None
    slope = sum([(x - mean) * (y - mean_other) for x, y in zip(xs, ys)]) / under
    return slope, mean_other - slope * mean


def missed_by_line(row, other, slope, offset):
    return sum([(y - slope * x - offset) ** 2 for x, y in zip(fractions(row), fractions(other))])


def rank(lists):
    """How many of the lists don't hang on others, by clearing one column after the other."""
    lists, found = [list(row) for row in lists], 0
    for place in range(len(lists[0])):
        heads = [row for row in lists if row[place] != 0]
        if heads:
            found += 1
            head = heads[0]
            others = [row for row in lists if row is not head]
            lists = [[x - row[place] / head[place] * y for x, y in zip(row, head)] for row in others]
    return found


def columns_of_fit(table, places):
    """The ones that stand for the offset, then the columns of the places."""
    return [[ONE] * len(table)] + [[row[place] for row in table] for place in places]


def is_dependent(table, places):
    return rank([fractions(numbers) for numbers in columns_of_fit(table, places)]) < len(places) + 1


def missed_in_rows(table, places, target, parts):
    offset, *factors = [Fraction(*part) for part in parts]
    answer = []
    for row in table:
        values = fractions(row)
        answer.append(values[target] - offset - sum([f * values[place] for f, place in zip(factors, places)]))
    return answer


def ratio_by_chance(dice, size):
    top, under = dice.randrange(-size, size + 1), dice.randrange(1, size + 1)
    return told(Fraction(top, under))


def choices_of_places(dice, columns):
    """Each count of unlike places from one to three, and each target, some of them among the places."""
    for count in range(1, min(3, columns) + 1):
        places = dice.sample(range(columns), count)
        for target in {dice.choice(places), dice.randrange(columns)}:
            yield places, target


class LineOf(unittest.TestCase):
    def check(self, row, other):
        answer = asked(self, line_of, row, other)
        self.assertIs(type(answer), tuple)
        self.assertEqual(len(answer), 2)
        for part in answer:
            self.assertTrue(is_ratio(part))
        self.assertEqual(answer, tuple([told(part) for part in line_by_means(row, other)]))
        return answer

    def pairs(self, width):
        rows = sample_rows(width)
        for row in rows:
            for other in [other for other in rows if len(other) == len(row)][:5] + [row[::-1]]:
                yield row, other

    def test_written_out(self):
        self.assertEqual(line_of(wholes([1, 2, 3]), wholes([3, 5, 7])), ((2, 1), (1, 1)))
        self.assertEqual(line_of(wholes([0, 1, 2]), wholes([1, 0, 0])), ((-1, 2), (5, 6)))
        self.assertEqual(line_of(wholes([0, 0, 1]), wholes([1, 2, 5])), ((7, 2), (3, 2)))
        self.assertEqual(line_of(wholes([5, 9]), wholes([4, 4])), ((0, 1), (4, 1)))
        self.assertEqual(line_of(wholes([1, 2]), wholes([0, 0])), ((0, 1), (0, 1)))
        self.assertEqual(line_of([(1, 60), (-1, 60)], [(1, -60), (-1, -60)]), ((1, 2 ** 120), (0, 1)))

    def test_two_points(self):
        for width in WIDTHS:
            dice = random.Random(width + 90)
            for _ in range(30):
                row, other = some_row(dice, width, 2, -60, 60), some_row(dice, width, 2, -60, 60)
                if row[0] != row[1]:
                    slope, offset = [Fraction(*part) for part in self.check(row, other)]
                    for x, y in zip(fractions(row), fractions(other)):
                        self.assertEqual(slope * x + offset, y)

    def test_rows(self):
        for width in WIDTHS:
            found = 0
            for row, other in self.pairs(width):
                if len(set(row)) > 1:
                    self.check(row, other)
                    found += len(row) == 60
                else:
                    refused(self, NoLine, line_of, row, other)
            self.assertGreater(found, 10)

    def test_a_row_upon_itself(self):
        for width in WIDTHS:
            for row in sample_rows(width):
                if len(set(row)) > 1:
                    self.assertEqual(self.check(row, row), ((1, 1), (0, 1)))
                    self.assertEqual(self.check(row, opposites(row)), ((-1, 1), (0, 1)))
                    self.assertEqual(self.check(row, [(5, 3)] * len(row)), ((0, 1), (40, 1)))

    def test_no_other_line_misses_less(self):
        dice = random.Random(91)
        for width in WIDTHS:
            for row, other in list(self.pairs(width))[::7]:
                if len(set(row)) > 1:
                    slope, offset = [Fraction(*part) for part in line_of(row, other)]
                    least = missed_by_line(row, other, slope, offset)
                    for _ in range(5):
                        more, above = [Fraction(*ratio_by_chance(dice, 2 ** 9)) for _ in range(2)]
                        size = Fraction(2) ** dice.randrange(-99, 9)
                        beside = missed_by_line(row, other, slope + more * size, offset + above * size)
                        self.assertGreaterEqual(beside, least)

    def test_in_another_order(self):
        for width in WIDTHS:
            dice = random.Random(width + 92)
            for row, other in list(self.pairs(width))[::3]:
                if len(set(row)) > 1:
                    places = list(range(len(row)))
                    dice.shuffle(places)
                    again = line_of([row[place] for place in places], [other[place] for place in places])
                    self.assertEqual(again, line_of(row, other))
                    self.assertEqual(line_of(row[::-1], other[::-1]), line_of(row, other))

    def test_no_line(self):
        for width in WIDTHS:
            dice = random.Random(width + 93)
            for number in sample_measures(width) + [NOUGHT]:
                for count in (1, 2, 3, 60):
                    refused(self, NoLine, line_of, [number] * count, some_row(dice, width, count, -60, 60))
                    refused(self, NoLine, line_of, [number] * count, [number] * count)

    def test_alike_but_one_by_a_last_digit(self):
        for width in WIDTHS:
            dice = random.Random(width + 94)
            for power in (60 - width, -width, -59 - width):
                row = [(2 ** (width - 1) + 1, power)] * 59 + [(2 ** (width - 1) + 3, power)]
                self.check(row, some_row(dice, width, 60, -60, 60))
        self.check([(1, 60)] * 59 + [(-1, -60)], [(1, -60)] * 59 + [(-1, 60)])


class FitCase(unittest.TestCase):
    def check_fitted(self, table, places, target):
        """No one is missed less just if what is missed, alone and times each column, sums up to nought."""
        answer = asked(self, fitted, table, places, target)
        self.assertIs(type(answer), list)
        self.assertEqual(len(answer), len(places) + 1)
        for part in answer:
            self.assertTrue(is_ratio(part))
        self.assertFalse(is_dependent(table, places))
        missed = missed_in_rows(table, places, target, answer)
        for numbers in columns_of_fit(table, places):
            self.assertEqual(sum([x * miss for x, miss in zip(fractions(numbers), missed)]), 0)
        return answer

    def check_dependent(self, table, places, target):
        refusal = refused(self, Dependent, fitted, table, places, target)
        self.assertTrue(is_dependent(table, places))
        self.assertEqual(len(refusal.weights), len(places) + 1)
        check_weights(self, refusal.weights, columns_of_fit(table, places))
        return refusal.weights

    def check_missed(self, table, places, target, parts):
        missed = missed_in_rows(table, places, target, parts)
        answer = asked(self, residues, table, places, target, parts)
        self.assertIs(type(answer), list)
        self.assertEqual(answer, [told(miss) for miss in missed])
        whole = asked(self, misses, table, places, target, parts)
        self.assertEqual(whole, told(sum([miss * miss for miss in missed])))
        for part in answer + [whole]:
            self.assertTrue(is_ratio(part))

    def independent_fits(self, width):
        dice = random.Random(width + 95)
        for table in sample_tables(width):
            for places, target in choices_of_places(dice, len(table[0])):
                if not is_dependent(table, places):
                    yield table, places, target


class Fitted(FitCase):
    def test_written_out(self):
        table = [wholes(row) for row in ([1, 3, 0], [2, 5, 1], [3, 7, 5])]
        self.assertEqual(fitted(table, [0], 1), [(1, 1), (2, 1)])
        self.assertEqual(fitted(table, [1], 0), [(-1, 2), (1, 2)])
        self.assertEqual(fitted(table, [0], 2), [(-3, 1), (5, 2)])
        self.assertEqual(fitted(table, [0], 0), [(0, 1), (1, 1)])
        # By hand: 2 + 3 x - 5 y, then one of the rows off by 7.
        table = [wholes(row) for row in ([0, 0, 2], [1, 0, 5], [0, 1, -3], [1, 1, 0])]
        self.assertEqual(fitted(table, [0, 1], 2), [(2, 1), (3, 1), (-5, 1)])
        self.assertEqual(fitted(table, [1, 0], 2), [(2, 1), (-5, 1), (3, 1)])
        table[3][2] = (7, 0)
        self.assertEqual(fitted(table, [0, 1], 2), [(1, 4), (13, 2), (-3, 2)])
        table = [wholes(row) for row in ([0, 0, 0, 1], [1, 0, 0, 3], [0, 1, 0, 6], [0, 0, 1, 8])]
        self.assertEqual(fitted(table, [0, 1, 2], 3), [(1, 1), (2, 1), (5, 1), (7, 1)])
        self.assertEqual(fitted(table, [2, 0, 1], 3), [(1, 1), (7, 1), (2, 1), (5, 1)])

    def test_tables(self):
        for width in WIDTHS:
            found = {1: 0, 2: 0, 3: 0}
            dice = random.Random(width + 96)
            for table in sample_tables(width):
                for places, target in choices_of_places(dice, len(table[0])):
                    if is_dependent(table, places):
                        self.check_dependent(table, places, target)
                    else:
                        self.check_fitted(table, places, target)
                        found[len(places)] += 1
            self.assertGreater(min(found.values()), 5)

    def test_each_choice_of_places(self):
        for width in WIDTHS:
            table = some_table(random.Random(width + 97), width, 7, 4, -60, 60)
            for count in (1, 2, 3):
                for places in itertools.permutations(range(4), count):
                    for target in range(4):
                        answer = self.check_fitted(table, list(places), target)
                        if target in places:
                            unit = [(0, 1)] + [(1, 1) if place == target else (0, 1) for place in places]
                            self.assertEqual(answer, unit)

    def test_as_a_line(self):
        for width in WIDTHS:
            for table in sample_tables(width):
                if len(table[0]) > 1 and not is_dependent(table, [1]):
                    offset, slope = self.check_fitted(table, [1], 0)
                    self.assertEqual(line_of([row[1] for row in table], [row[0] for row in table]), (slope, offset))

    def test_just_as_many_rows_as_parts(self):
        for width in WIDTHS:
            dice = random.Random(width + 98)
            for count in (1, 2, 3):
                table = some_table(dice, width, count + 1, 4, -60, 60)
                answer = self.check_fitted(table, list(range(count)), 3)
                self.assertEqual(residues(table, list(range(count)), 3, answer), [(0, 1)] * (count + 1))
                self.assertEqual(misses(table, list(range(count)), 3, answer), (0, 1))

    def test_the_target_is_all_alike_or_nought(self):
        for width in WIDTHS:
            table = some_table(random.Random(width + 99), width, 9, 3, -60, 60)
            for number, offset in ((NOUGHT, (0, 1)), ((5, 3), (40, 1)), ((-1, -60), (-1, 2 ** 60))):
                beside = [row + [number] for row in table]
                for count in (1, 2, 3):
                    answer = self.check_fitted(beside, list(range(count)), 3)
                    self.assertEqual(answer, [offset] + [(0, 1)] * count)

    def test_nearly_dependent(self):
        for width in WIDTHS:
            dice = random.Random(width + 100)
            first = some_row(dice, width, 60, -3, 3)
            second = list(first)
            second[31] = (1, -60)
            alike = [(1, 60)] * 59 + [(-1, -60)]
            table = table_of(first, second, alike, some_row(dice, width, 60, -60, 60))
            for places in itertools.permutations(range(3)):
                self.check_fitted(table, list(places), 3)

    def test_no_others_miss_less(self):
        for width in WIDTHS:
            dice = random.Random(width + 101)
            for table, places, target in self.independent_fits(width):
                parts = fitted(table, places, target)
                least = Fraction(*misses(table, places, target, parts))
                beside = [plus(part, ratio_by_chance(dice, 2 ** dice.randrange(1, 100))) for part in parts]
                above = Fraction(*misses(table, places, target, beside))
                (self.assertEqual if beside == parts else self.assertGreater)(above, least)

    def test_rows_in_another_order(self):
        for width in WIDTHS:
            dice = random.Random(width + 102)
            for table, places, target in self.independent_fits(width):
                other = list(table)
                dice.shuffle(other)
                self.assertEqual(fitted(other, places, target), fitted(table, places, target))

    def test_places_in_another_order(self):
        for width in WIDTHS:
            for table, places, target in self.independent_fits(width):
                offset, *factors = fitted(table, places, target)
                self.assertEqual(fitted(table, places[::-1], target), [offset] + factors[::-1])

    def test_what_is_told_is_the_askers_own(self):
        table = [wholes(row) for row in ([1, 3], [2, 5], [3, 7])]
        for _ in range(2):
            answer = asked(self, fitted, table, [0], 1)
            self.assertEqual(answer, [(1, 1), (2, 1)])
            answer[0] = NOUGHT
            answer.append(ONE)


class Refused(FitCase):
    def test_written_out(self):
        table = [wholes(row) for row in ([1, 2, 5, 0], [2, 4, 5, 0], [3, 6, 5, 0])]
        self.assertEqual(self.check_dependent(table, [0, 1], 3), [0, 2, -1])
        self.assertEqual(self.check_dependent(table, [1, 0], 2), [0, 1, -2])
        self.assertEqual(self.check_dependent(table, [2], 0), [5, -1])
        self.assertEqual(self.check_dependent(table, [3], 0), [0, 1])
        self.assertEqual(self.check_dependent(table, [0, 2], 1), [5, 0, -1])
        self.assertEqual(self.check_dependent(table, [0, 3], 3), [0, 0, 1])
        table = [wholes(row) for row in ([1, 7], [2, 5], [3, 3])]
        self.assertEqual(self.check_dependent(table, [0, 1], 0), [9, -2, -1])
        table = [[(3, -1), ONE], [(3, -1), (3, 0)]]
        self.assertEqual(self.check_dependent(table, [0], 1), [3, -2])
        self.assertEqual(self.check_dependent([[(1, 60)], [(1, 60)]], [0], 0), [2 ** 60, -1])
        self.assertEqual(self.check_dependent([[(-1, -60)], [(-1, -60)]], [0], 0), [1, 2 ** 60])

    def test_columns_alike_opposite_all_alike_or_nought(self):
        for width in WIDTHS:
            dice = random.Random(width + 103)
            for count in (3, 5, 60):
                first, target = some_row(dice, width, count, -50, 50), some_row(dice, width, count, -60, 60)
                free = some_row(dice, width, count, -50, 50)
                doubled = [(x, power + 5) for x, power in first]
                alike = [some_number(dice, width, -60, 60)] * count
                for beside in (list(first), opposites(first), doubled, alike, [NOUGHT] * count):
                    table = table_of(first, free, beside, target)
                    for places in ([0, 2], [2, 0], [0, 1, 2], [2, 1, 0], [1, 2, 0]):
                        for goal in (0, 2, 3):
                            self.check_dependent(table, places, goal)
                    if beside in (alike, [NOUGHT] * count):
                        for goal in range(4):
                            self.check_dependent(table, [2], goal)

    def test_a_column_that_is_another_and_a_number_more(self):
        dice = random.Random(104)
        for _ in range(20):
            values = [dice.randrange(-9, 10) for _ in range(8)]
            factor, more = dice.randrange(1, 9), dice.randrange(-9, 10)
            table = table_of(
                wholes(values), wholes([more - factor * x for x in values]), some_row(dice, 8, 8, -3, 3),
            )
            for places in ([0, 1], [1, 0], [0, 1, 2], [2, 1, 0]):
                self.check_dependent(table, places, 2)

    def test_fewer_rows_than_parts(self):
        for width in WIDTHS:
            dice = random.Random(width + 105)
            for count in (1, 2, 3):
                for rows in range(1, count + 1):
                    for table in (some_table(dice, width, rows, 4, -60, 60), little_table(dice, rows, 4)):
                        for target in (0, 3):
                            self.check_dependent(table, list(range(count)), target)

    def test_the_rank_is_one(self):
        for width in WIDTHS:
            for number in sample_measures(width) + [NOUGHT]:
                table = [[number] * 4 for _ in range(6)]
                self.check_dependent(table, [0, 1, 2], 3)
                self.check_dependent(table, [1], 1)
            self.check_dependent([[NOUGHT, ONE, (-1, 60), (1, -60)]] * 60, [1, 2, 3], 0)

    def test_little_tables(self):
        dice = random.Random(106)
        found = 0
        for _ in range(150):
            table = little_table(dice, dice.randrange(1, 6), 4)
            for places in ([0, 1, 2], [3, 1], [2]):
                if is_dependent(table, places):
                    self.check_dependent(table, places, 3)
                    found += 1
                else:
                    self.check_fitted(table, places, 3)
        self.assertGreater(found, 100)

    def test_the_weights_are_the_askers_own(self):
        table = [wholes(row) for row in ([1, 2], [2, 4], [3, 6])]
        for _ in range(2):
            weights = self.check_dependent(table, [0, 1], 1)
            self.assertEqual(weights, [0, 2, -1])
            weights[0] = 7
            weights.append(0)


class Missed(FitCase):
    def test_written_out(self):
        table = [wholes(row) for row in ([1, 3, 0], [2, 5, 1], [3, 7, 5])]
        self.assertEqual(residues(table, [0], 1, [(1, 1), (2, 1)]), [(0, 1)] * 3)
        self.assertEqual(misses(table, [0], 1, [(1, 1), (2, 1)]), (0, 1))
        self.assertEqual(residues(table, [0], 2, [(-3, 1), (5, 2)]), [(1, 2), (-1, 1), (1, 2)])
        self.assertEqual(misses(table, [0], 2, [(-3, 1), (5, 2)]), (3, 2))
        self.assertEqual(residues(table, [0, 2], 1, [(1, 3), (-1, 5), (1, 7)]), [(43, 15), (517, 105), (688, 105)])
        self.assertEqual(misses([[(1, -1)]], [0], 0, [(0, 1), (0, 1)]), (1, 4))
        self.assertEqual(residues([[(1, 60)]], [0], 0, [(0, 1), (0, 1)]), [(2 ** 60, 1)])
        self.assertEqual(residues([[(1, -60)]], [0], 0, [(0, 1), (-1, 3)]), [(1, 3 * 2 ** 58)])

    def test_of_what_fitted_told(self):
        for width in WIDTHS:
            for table, places, target in self.independent_fits(width):
                parts = fitted(table, places, target)
                self.check_missed(table, places, target, parts)
                missed = [Fraction(*miss) for miss in residues(table, places, target, parts)]
                for numbers in columns_of_fit(table, places):
                    self.assertEqual(sum([x * miss for x, miss in zip(fractions(numbers), missed)]), 0)

    def test_of_that_and_a_ratio_added(self):
        for width in WIDTHS:
            dice = random.Random(width + 107)
            for table, places, target in list(self.independent_fits(width))[::2]:
                for size in (9, 2 ** 100):
                    parts = [plus(part, ratio_by_chance(dice, size)) for part in fitted(table, places, target)]
                    self.check_missed(table, places, target, parts)

    def test_of_other_ratios(self):
        for width in WIDTHS:
            dice = random.Random(width + 108)
            for table in sample_tables(width)[::2]:
                for places, target in choices_of_places(dice, len(table[0])):
                    for size in (3, 2 ** 64, 2 ** 300):
                        parts = [ratio_by_chance(dice, size) for _ in range(len(places) + 1)]
                        self.check_missed(table, places, target, parts)

    def test_of_the_greatest_ratios(self):
        ends = [(2 ** 300, 1), (-2 ** 300, 1), (1, 2 ** 300), (-1, 2 ** 300), (2 ** 300, 2 ** 300 - 1), (0, 1), (1, 1)]
        for width in WIDTHS:
            table = some_table(random.Random(width + 109), width, 3, 4, -60, 60) + [[NOUGHT] * 4, [(1, 60)] * 4]
            for parts in itertools.product(ends, repeat=2):
                self.check_missed(table, [1], 2, list(parts))
            for place in range(4):
                for end in ends:
                    parts = [(2 ** 300 - 1, 2 ** 300)] * place + [end] + [(-2 ** 299, 3 ** 189)] * (3 - place)
                    self.check_missed(table, [2, 0, 1], 3, parts)

    def test_of_dependent_columns(self):
        # A table by which nothing can be fitted has its misses all the same.
        for width in WIDTHS:
            for table in ([[NOUGHT] * 4] * 3, [[(1, 60), (1, 60), (-1, -60), ONE]] * 60, [[ONE] * 4]):
                self.check_dependent(table, [0, 1, 2], 3)
                self.check_missed(table, [0, 1, 2], 3, [(1, 3), (-2, 5), (0, 1), (7, 2)])

    def test_the_target_among_the_places(self):
        for width in WIDTHS:
            table = some_table(random.Random(width + 110), width, 6, 3, -60, 60)
            self.check_missed(table, [0, 1], 1, [(1, 3), (2, 5), (-7, 9)])
            self.assertEqual(residues(table, [0, 1], 1, [(0, 1), (0, 1), (1, 1)]), [(0, 1)] * 6)

    def test_what_is_told_is_the_askers_own(self):
        table, parts = [wholes(row) for row in ([1, 3], [2, 5], [3, 7])], [(1, 1), (1, 1)]
        for _ in range(2):
            answer = asked(self, residues, table, [0], 1, parts)
            self.assertEqual(answer, [(1, 1), (2, 1), (3, 1)])
            answer[0] = NOUGHT
            answer.append(ONE)


if __name__ == "__main__":
    unittest.main()
