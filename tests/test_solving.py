"""[80] and, of equations, [1] and [2]."""

import itertools
import random
import unittest
from fractions import Fraction

from helper import (
    WIDTHS, asked, check_weights, exact, form_of, fractions, little_table, opposites, refused, sample_measures,
    some_number, some_row, some_table, told,
)
from trueline.errors import Dependent
from trueline.numbers import is_measure
from trueline.ratios import is_ratio
from trueline.solving import determinant, solved

NOUGHT = (0, 0)
ONE = (1, 0)


def sign_of_order(order):
    """By how many pairs stand the wrong way round."""
    return (-1) ** sum([one > other for one, other in itertools.combinations(order, 2)])


def determinant_by_orders(rows):
    """The sum over all orders of the places, one number of each list."""
    values = [fractions(row) for row in rows]
    total = Fraction(0)
    for order in itertools.permutations(range(len(rows))):
        part = Fraction(sign_of_order(order))
        for row, place in zip(values, order):
            part *= row[place]
        total += part
    return total


def wholes(rows):
    return [[form_of(Fraction(number)) for number in row] for row in rows]


def times_power(rows, power):
    return [[(whole, own + power) if whole else NOUGHT for whole, own in row] for row in rows]


def sample_squares(width):
    """Lists of n lists of n measures: of one size, far apart, at the ends, little ones, many of these dependent."""
    dice = random.Random(width + 80)
    squares = []
    for count in (1, 2, 3, 4):
        for _ in range(6):
            squares.append(some_table(dice, width, count, count, -60, 60))
            squares.append(some_table(dice, width, count, count, 0, 2))
            squares.append([[dice.choice(sample_measures(width)) for _ in range(count)] for _ in range(count)])
        for _ in range(30):
            squares.append(little_table(dice, count, count))
    return squares


def dependent_squares(width):
    """Lists that hang on one another: alike, opposite, doubled, sums of others, noughts, a column that is nought."""
    dice = random.Random(width + 81)
    squares = []
    for count in (1, 2, 3, 4):
        squares.append([[NOUGHT] * count for _ in range(count)])
        for place in range(count):
            rows = some_table(dice, width, count, count, -20, 20)
            squares.append([[NOUGHT] * count if at == place else row for at, row in enumerate(rows)])
            squares.append([[NOUGHT if at == place else number for at, number in enumerate(row)] for row in rows])
            alone = [[NOUGHT] * count for _ in range(count)]
            alone[place][dice.randrange(count)] = some_number(dice, width, -60, 60)
            squares += [alone] if count > 1 else []
        for one, other in itertools.combinations(range(count), 2):
            rows = some_table(dice, width, count, count, -20, 20)
            for beside in [rows[one], opposites(rows[one])] + [times_power([rows[one]], power)[0] for power in (3, -2)]:
                squares.append([list(beside) if at == other else row for at, row in enumerate(rows)])
        # Each list some multiple of one: the rank is one.
        row = [(2 * dice.randrange(8) + 1, dice.randrange(-50, 50)) for _ in range(count)]
        factors = [dice.choice((1, 3, -5, 7, -15)) for _ in range(count)]
        squares += [[[(factor * x, power) for x, power in row] for factor in factors]] if count > 1 else []
    squares += [wholes(rows) for rows in sums_of_others(dice)]
    return squares


def sums_of_others(dice):
    for count in (3, 4):
        for rank in range(1, count):
            for _ in range(5):
                base = [[dice.randrange(-3, 4) for _ in range(count)] for _ in range(rank)]
                mixes = [[dice.randrange(-2, 3) for _ in range(rank)] for _ in range(count)]
                yield [[sum([m * b[place] for m, b in zip(mix, base)]) for place in range(count)] for mix in mixes]


class SquareCase(unittest.TestCase):
    def check_measures(self, rows, width):
        for row in rows:
            for number in row:
                self.assertTrue(is_measure(number, width), number)

    def check_determinant(self, rows, answer):
        found = asked(self, determinant, rows)
        self.assertEqual(found, told(answer))
        self.assertTrue(is_ratio(found))

    def check_solved(self, rows, right):
        answer = asked(self, solved, rows, right)
        self.assertIs(type(answer), list)
        self.assertEqual(len(answer), len(rows))
        for part in answer:
            self.assertTrue(is_ratio(part))
        for row, number in zip(rows, right):
            total = sum([x * Fraction(*part) for x, part in zip(fractions(row), answer)])
            self.assertEqual(total, exact(number))
        return answer

    def check_dependent(self, rows, right):
        refusal = refused(self, Dependent, solved, rows, right)
        self.assertEqual(len(refusal.weights), len(rows))
        check_weights(self, refusal.weights, rows)
        return refusal.weights


class Determinant(SquareCase):
    def test_written_out(self):
        self.check_determinant([[(7, -3)]], Fraction(7, 8))
        self.check_determinant([[NOUGHT]], 0)
        self.assertEqual(determinant([[(-3, 2)]]), (-12, 1))
        self.assertEqual(determinant([[NOUGHT]]), (0, 1))
        self.assertEqual(determinant(wholes([[1, 2], [3, 4]])), (-2, 1))
        self.assertEqual(determinant(wholes([[0, 1], [1, 0]])), (-1, 1))
        self.assertEqual(determinant(wholes([[2, 0, 0], [0, 3, 0], [0, 0, 5]])), (30, 1))
        self.assertEqual(determinant(wholes([[1, 2, 3], [4, 5, 6], [7, 8, 9]])), (0, 1))
        self.assertEqual(determinant(wholes([[1, 2, 3], [4, 5, 6], [7, 8, 10]])), (-3, 1))
        self.assertEqual(determinant(wholes([[0, 0, 0, 1], [0, 0, 1, 0], [0, 1, 0, 0], [1, 0, 0, 0]])), (1, 1))
        self.assertEqual(determinant(wholes([[0, 1, 0, 0], [0, 0, 1, 0], [0, 0, 0, 1], [1, 0, 0, 0]])), (-1, 1))
        self.assertEqual(determinant([[(1, 60), (1, 60)], [(1, 60), (1, 60)]]), (0, 1))
        self.assertEqual(determinant([[(1, -60), NOUGHT], [NOUGHT, (3, -60)]]), (3, 2 ** 120))
        self.assertEqual(determinant([[(1, 60), NOUGHT], [NOUGHT, (1, -60)]]), (1, 1))

    def test_all_cancels_but_the_least(self):
        for width in WIDTHS:
            greatest = (2 ** width - 1, -width)
            self.assertEqual(determinant([[greatest, greatest], [greatest, greatest]]), (0, 1))
            rows = [[(1, 60), (1, 60), ONE], [(1, 60), (1, 60), NOUGHT], [NOUGHT, (1, -60), NOUGHT]]
            self.assertEqual(determinant(rows), (1, 1))
            whole = 2 ** width - 3
            # (w + 1) (w - 1) - w w, by numbers of the width alone.
            rows = [[form_of(Fraction(whole + 1)), (whole, 0)], [(whole, 0), form_of(Fraction(whole - 1))]]
            self.assertEqual(determinant(times_power(rows, -width)), told(Fraction(-1, 4 ** width)))

    def test_squares(self):
        for width in WIDTHS:
            for rows in sample_squares(width) + dependent_squares(width):
                self.check_measures(rows, width)
                self.check_determinant(rows, determinant_by_orders(rows))

    def test_nought(self):
        for width in WIDTHS:
            for rows in dependent_squares(width):
                self.assertEqual(asked(self, determinant, rows), (0, 1))

    def test_two_lists_exchanged(self):
        for width in WIDTHS:
            for rows in sample_squares(width):
                for one, other in itertools.combinations(range(len(rows)), 2):
                    places = list(range(len(rows)))
                    places[one], places[other] = other, one
                    top, under = determinant(rows)
                    self.assertEqual(determinant([rows[place] for place in places]), (-top, under))
                    self.assertEqual(determinant([[row[place] for place in places] for row in rows]), (-top, under))

    def test_lists_and_places_exchanged(self):
        for width in WIDTHS:
            for rows in sample_squares(width):
                self.assertEqual(determinant([list(row) for row in zip(*rows)]), determinant(rows))


class Solved(SquareCase):
    def test_written_out(self):
        self.assertEqual(solved([[(3, 0)]], [(5, 0)]), [(5, 3)])
        self.assertEqual(solved([[(-3, 0)]], [(3, 2)]), [(-4, 1)])
        self.assertEqual(solved([[(7, 9)]], [NOUGHT]), [(0, 1)])
        self.assertEqual(solved(wholes([[1, 2], [3, 4]]), wholes([[5, 6]])[0]), [(-4, 1), (9, 2)])
        self.assertEqual(solved(wholes([[0, 1], [1, 0]]), wholes([[5, 6]])[0]), [(6, 1), (5, 1)])
        self.assertEqual(solved(wholes([[2, 0, 0], [0, 3, 0], [0, 0, 5]]), [ONE] * 3), [(1, 2), (1, 3), (1, 5)])
        self.assertEqual(solved([[(1, 60)]], [(1, -60)]), [(1, 2 ** 120)])
        self.assertEqual(solved([[(1, -60)]], [(-3, 50)]), [(-3 * 2 ** 110, 1)])

    def test_squares(self):
        for width in WIDTHS:
            dice = random.Random(width + 82)
            found = {True: 0, False: 0}
            for rows in sample_squares(width):
                is_dependent = determinant_by_orders(rows) == 0
                found[is_dependent] += 1
                for right in (some_row(dice, width, len(rows), -60, 60), some_row(dice, width, len(rows), 0, 1)):
                    if is_dependent:
                        self.check_dependent(rows, right)
                    else:
                        self.check_solved(rows, right)
            self.assertGreater(min(found.values()), 10)

    def test_the_right_is_nought_or_one_of_the_columns(self):
        for width in WIDTHS:
            for rows in sample_squares(width):
                if determinant_by_orders(rows) != 0:
                    count = len(rows)
                    self.assertEqual(self.check_solved(rows, [NOUGHT] * count), [(0, 1)] * count)
                    for place in range(count):
                        unit = [(1, 1) if at == place else (0, 1) for at in range(count)]
                        self.assertEqual(self.check_solved(rows, [row[place] for row in rows]), unit)

    def test_a_nought_at_the_head(self):
        for order in itertools.permutations(range(4)):
            rows = [[ONE if place == at else NOUGHT for place in range(4)] for at in order]
            right = wholes([[2, 3, 5, 7]])[0]
            answer = self.check_solved(rows, right)
            self.assertEqual([answer[at] for at in order], [(2, 1), (3, 1), (5, 1), (7, 1)])

    def test_nearly_dependent(self):
        for width in WIDTHS:
            dice = random.Random(width + 83)
            for count in (2, 3, 4):
                for _ in range(5):
                    rows = some_table(dice, width, count, count, -3, 3)
                    rows[-1] = rows[0][:-1] + [(1, -60)]
                    self.check_solved(rows, some_row(dice, width, count, -60, 60))

    def test_what_is_told_is_the_askers_own(self):
        rows, right = wholes([[1, 2], [3, 4]]), wholes([[5, 6]])[0]
        for _ in range(2):
            answer = asked(self, solved, rows, right)
            self.assertEqual(answer, [(-4, 1), (9, 2)])
            answer[0] = NOUGHT
            answer.append(ONE)


class Refused(SquareCase):
    def test_written_out(self):
        rights = wholes([[1, 2, 3, 4], [0, 0, 0, 0]])
        for right in rights:
            self.assertEqual(self.check_dependent([[NOUGHT]], right[:1]), [1])
            self.assertEqual(self.check_dependent(wholes([[1, 2], [2, 4]]), right[:2]), [2, -1])
            self.assertEqual(self.check_dependent(wholes([[6, 9], [-4, -6]]), right[:2]), [2, 3])
            self.assertEqual(self.check_dependent(wholes([[0, 0], [1, 2]]), right[:2]), [1, 0])
            self.assertEqual(self.check_dependent(wholes([[1, 2], [0, 0]]), right[:2]), [0, 1])
            self.assertEqual(self.check_dependent(wholes([[1, 2, 3], [4, 5, 6], [7, 8, 9]]), right[:3]), [1, -2, 1])
            self.assertEqual(self.check_dependent(wholes([[1, 0, 0], [0, 0, 5], [0, 0, 3]]), right[:3]), [0, 3, -5])
            rows = wholes([[1, 0, 0, 1], [0, 1, 0, 1], [0, 0, 1, 1], [30, 42, 70, 142]])
            self.assertEqual(self.check_dependent(rows, right), [30, 42, 70, -1])

    def test_far_apart(self):
        rows = [[(1, 60), (1, 59)], [(1, -60), (1, -61)]]
        self.assertEqual(self.check_dependent(rows, [ONE, ONE]), [1, -2 ** 120])
        self.assertEqual(self.check_dependent(rows[::-1], [ONE, ONE]), [2 ** 120, -1])

    def test_dependent_ones(self):
        for width in WIDTHS:
            dice = random.Random(width + 84)
            for rows in dependent_squares(width):
                for right in (some_row(dice, width, len(rows), -60, 60), [NOUGHT] * len(rows)):
                    self.check_dependent(rows, right)

    def test_solvable_all_the_same(self):
        # The right fits the lists, so that there are many solutions: none of them is told.
        for right in ([ONE, (1, 1)], [NOUGHT, NOUGHT]):
            self.check_dependent(wholes([[1, 2], [2, 4]]), right)

    def test_all_little_ones(self):
        for numbers in itertools.product((-1, 0, 1, 2), repeat=4):
            rows = wholes([numbers[:2], numbers[2:]])
            if numbers[0] * numbers[3] == numbers[1] * numbers[2]:
                self.check_dependent(rows, [ONE, ONE])
            else:
                self.check_solved(rows, [ONE, ONE])

    def test_the_weights_are_the_askers_own(self):
        rows = wholes([[1, 2], [2, 4]])
        for _ in range(2):
            weights = self.check_dependent(rows, [ONE, ONE])
            self.assertEqual(weights, [2, -1])
            weights[0] = 7
            weights.append(0)


if __name__ == "__main__":
    unittest.main()
