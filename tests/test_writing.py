"""[101], [102] and [103]: texts with so many figures as are asked for, and with as few as tell a number."""

import random
import re
import unittest
from fractions import Fraction

from helper import (WIDTHS, asked, briefest_text, exact, form_of, nearest, nearest_of_texts, nearest_text, read_exactly,
                    sample_numbers, some_number, step_at, texts_around, told)
from trueline.decimals import read_text
from trueline.numbers import near, next_down, next_up, value
from trueline.writing import briefest, written

COUNTS = (1, 2, 17, 40)
ALL_COUNTS = tuple(range(1, 41))

# With these counts [102] promises that what was written is read as the number it was written of ..
ENOUGH = {8: 4, 9: 4, 53: 17, 64: 21}
# .. and with these, at most, that what was read is written as the text it was read from.
FEW = {8: 2, 9: 2, 53: 15, 64: 18}


def form(digits):
    point = rf"\.[0-9]{{{digits - 1}}}" if digits > 1 else ""
    return re.compile(rf"-?[1-9]{point}e(0|-?[1-9][0-9]*)")


def some_whole(dice, digits):
    """A whole number of so many figures: the least, the greatest, or any."""
    least, greatest = 10 ** (digits - 1), 10 ** digits - 1
    return dice.choice((least, greatest, dice.randrange(least, greatest + 1), dice.randrange(least, greatest + 1)))


class Written(unittest.TestCase):
    def check(self, fraction, digits):
        text = asked(self, written, told(fraction), digits)
        self.assertIs(type(text), str)
        self.assertEqual(text, nearest_text(fraction, digits), (fraction, digits))
        if fraction != 0:
            self.assertRegex(text, form(digits))
            self.assertIsNotNone(form(digits).fullmatch(text))
        return text

    def test_by_hand(self):
        self.assertEqual(written((1, 3), 1), "3e-1")
        self.assertEqual(written((1, 3), 2), "3.3e-1")
        self.assertEqual(written((2, 3), 2), "6.7e-1")
        self.assertEqual(written((-2, 3), 17), "-6.6666666666666667e-1")
        self.assertEqual(written((1, 1), 1), "1e0")
        self.assertEqual(written((1, 1), 3), "1.00e0")
        self.assertEqual(written((-12, 1), 4), "-1.200e1")
        self.assertEqual(written((1, 1024), 40), "9.765625000000000000000000000000000000000e-4")
        self.assertEqual(written((123456789, 1), 3), "1.23e8")
        self.assertEqual(written((10, 1), 1), "1e1")
        self.assertEqual(written((1, 10), 1), "1e-1")

    def test_nought(self):
        for digits in ALL_COUNTS:
            self.assertEqual(written((0, 1), digits), "0")

    def test_what_so_many_figures_write(self):
        dice = random.Random(101)
        for digits in ALL_COUNTS:
            for power in (-420, -100, -99, -10, -1, 0, 1, 9, 10, 99, 100, 380):
                fraction = some_whole(dice, digits) * Fraction(10) ** (power - digits + 1)
                for given in (fraction, -fraction):
                    self.assertEqual(read_exactly(self.check(given, digits)), given)

    def test_in_the_midst_of_two(self):
        dice = random.Random(102)
        for digits in COUNTS:
            for power in (-300, -41, -3, -1, 0, 1, 5, 40, 300):
                for _ in range(8):
                    whole = some_whole(dice, digits)
                    midst = (whole + Fraction(1, 2)) * Fraction(10) ** power
                    even = (whole + whole % 2) * Fraction(10) ** power
                    self.assertEqual(read_exactly(self.check(midst, digits)), even)
                    self.assertEqual(read_exactly(self.check(-midst, digits)), -even)

    def test_in_the_midst_by_hand(self):
        for given, text in (((5, 2), "2e0"), ((7, 2), "4e0"), ((3, 2), "2e0"), ((17, 2), "8e0"), ((-9, 2), "-4e0")):
            self.assertEqual(written(given, 1), text)
        self.assertEqual(written((125, 1), 2), "1.2e2")
        self.assertEqual(written((135, 1), 2), "1.4e2")
        self.assertEqual(written((105, 1), 2), "1.0e2")
        self.assertEqual(written((195, 1), 2), "2.0e2")

    def test_in_the_midst_of_nine_and_the_one_of_the_next_power(self):
        self.assertEqual(written((19, 2), 1), "1e1")
        self.assertEqual(written((-19, 2), 1), "-1e1")
        self.assertEqual(written((95, 1), 1), "1e2")
        self.assertEqual(written((19, 20), 1), "1e0")
        self.assertEqual(written((19, 200), 1), "1e-1")
        self.assertEqual(written((995, 1), 2), "1.0e3")

    def test_by_a_hair_beside_the_midst(self):
        dice = random.Random(103)
        for digits in COUNTS:
            for power in (-200, -1, 0, 1, 40, 200):
                step = Fraction(10) ** power
                hair = step / 10 ** 150
                for whole in (10 ** (digits - 1), 10 ** digits - 1, some_whole(dice, digits), some_whole(dice, digits)):
                    midst = (whole + Fraction(1, 2)) * step
                    for sign in (1, -1):
                        below = self.check(sign * (midst - hair), digits)
                        above = self.check(sign * (midst + hair), digits)
                        self.assertEqual(read_exactly(below), sign * whole * step)
                        self.assertEqual(read_exactly(above), sign * (whole + 1) * step)

    def test_by_a_hair_beside_a_power_of_ten(self):
        for digits in COUNTS:
            for power in (-300, -41, -1, 0, 1, 40, 300):
                one = Fraction(10) ** power
                for hair in (one / 10 ** 100, one / 10 ** digits * 4, one / 10 ** digits * 6, one / 10 ** digits / 2):
                    for sign in (1, -1):
                        self.check(sign * (one - hair), digits)
                        self.check(sign * (one + hair), digits)

    def test_nines_that_are_carried_over(self):
        self.assertEqual(written((996, 1000), 2), "1.0e0")
        self.assertEqual(written((9996, 1), 3), "1.00e4")
        self.assertEqual(written((-96, 1), 1), "-1e2")
        self.assertEqual(written((996, 100000), 2), "1.0e-2")
        self.assertEqual(written((996, 10000), 2), "1.0e-1")
        for digits in COUNTS:
            for power in (-300, -2, -1, 0, 1, 300):
                fraction = (10 ** (digits + 3) - 4) * Fraction(10) ** (power - digits - 3)
                text = self.check(fraction, digits)
                self.assertEqual(text, "1" + ("." if digits > 1 else "") + "0" * (digits - 1) + f"e{power}")

    def test_great_and_little_powers(self):
        for digits in COUNTS:
            for power in list(range(-1399, 1400, 37)) + [-1399, 1399]:
                self.check(Fraction(2) ** power, digits)
                self.check(-Fraction(2) ** power * 255 / 256 if power < 0 else -Fraction(2) ** power, digits)
            for power in list(range(-420, 421, 7)) + [-421, 421]:
                self.check(Fraction(10) ** power, digits)
                self.check(-Fraction(3) / 7 * Fraction(10) ** power, digits)

    def test_tops_and_unders_of_hundreds_of_digits(self):
        dice = random.Random(104)
        for digits in COUNTS + (3, 16, 39):
            for _ in range(60):
                top = dice.randrange(1, 2 ** dice.choice((8, 64, 700, 1400)))
                under = dice.randrange(1, 2 ** dice.choice((8, 64, 700, 1400)))
                self.check(Fraction(dice.choice((1, -1)) * top, under), digits)

    def test_fewer_figures_than_there_are(self):
        fraction = Fraction(1234567890123456789012345678901234567890123456789)
        for digits in ALL_COUNTS:
            self.check(fraction, digits)
            self.check(1 / fraction, digits)


class ReadAsWritten(unittest.TestCase):
    def test_the_counts_are_those_of_the_document(self):
        for width in WIDTHS:
            self.assertGreater(10 ** (ENOUGH[width] - 1), 2 ** width)
            self.assertLessEqual(10 ** (ENOUGH[width] - 2), 2 ** width)
            self.assertLess(10 ** FEW[width], 2 ** (width - 1))
            self.assertGreaterEqual(10 ** (FEW[width] + 1), 2 ** (width - 1))

    def test_each_number_comes_back(self):
        dice = random.Random(105)
        for width in WIDTHS:
            numbers = sample_numbers(width)
            for _ in range(60):
                numbers += beside((1, dice.randrange(-1300, 1300)), width)
                numbers.append(some_number(dice, width, -70, 70))
            for number in numbers:
                for digits in (ENOUGH[width], 40):
                    text = written(value(number), digits)
                    self.assertEqual(near(read_text(text), width), number, (text, width))

    def test_nought_comes_back(self):
        for width in WIDTHS:
            for digits in range(ENOUGH[width], 41):
                self.assertEqual(near(read_text(written(value((0, 0)), digits)), width), (0, 0))

    def test_each_text_comes_back(self):
        dice = random.Random(106)
        for width in WIDTHS:
            for digits in {1, 2, FEW[width] // 2 + 1, FEW[width]}:
                for _ in range(300):
                    power = dice.choice((0, 1, -1, dice.randrange(-30, 30), dice.randrange(-400, 380)))
                    given = told(dice.choice((1, -1)) * some_whole(dice, digits) * Fraction(10) ** power)
                    text = written(given, digits)
                    self.assertEqual(read_text(text), given)
                    self.assertEqual(written(value(near(given, width)), digits), text, (width, digits))

    def test_nought_as_text_comes_back(self):
        for width in WIDTHS:
            for digits in range(1, FEW[width] + 1):
                self.assertEqual(written(value(near((0, 1), width)), digits), "0")


def beside(number, width):
    return [number, next_up(number, width), next_down(number, width)]


class Briefest(unittest.TestCase):
    def check(self, number, width):
        text = asked(self, briefest, number, width)
        self.assertIs(type(text), str)
        self.assertEqual(text, briefest_text(exact(number), width), (number, width))
        self.assertEqual(near(read_text(text), width), number, (text, width))
        return text

    def test_nought(self):
        for width in WIDTHS:
            self.assertEqual(briefest((0, 0), width), "0")

    def test_by_hand(self):
        for width in WIDTHS:
            self.assertEqual(briefest((1, 0), width), "1e0")
            self.assertEqual(briefest((-1, -1), width), "-5e-1")
            self.assertEqual(briefest((-3, 0), width), "-3e0")
            self.assertEqual(briefest((5, 1), width), "1e1")
            self.assertEqual(briefest((25, 2), width), "1e2")
        self.assertEqual(briefest(near((1, 10), 53), 53), "1e-1")
        self.assertEqual(briefest((6004799503160661, -54), 53), "3.333333333333333e-1")
        self.assertEqual(briefest((1, 60), 53), "1.152921504606847e18")
        self.assertEqual(briefest((1, 60), 64), "1.152921504606846976e18")
        self.assertEqual(briefest((255, 0), 8), "2.55e2")
        self.assertEqual(briefest((255, 0), 9), "2.55e2")

    def test_the_figures_of_pythons_own_numbers(self):
        """A float has 53 digits, and its repr has as few figures as tell it."""
        dice = random.Random(107)
        numbers = [(1, power) for power in range(-900, 901, 3)]
        numbers += [some_number(dice, 53, -900, 900) for _ in range(500)]
        numbers += [some_number(dice, 53, -60, 60) for _ in range(500)]
        for number in numbers:
            self.assertEqual(read_exactly(briefest(number, 53)), Fraction(repr(float(exact(number)))), number)

    def test_each_text_of_few_figures_of_a_little_width(self):
        """All texts of 1 to 4 figures over some powers, each read; of those read alike the one that is asked for."""
        for width in (8, 9):
            known = {}
            for digits in (1, 2, 3, 4):
                for power in (-2, -1, 0, 1, 2, 3):
                    for whole in range(10 ** (digits - 1), 10 ** digits):
                        fraction = whole * Fraction(10) ** (power - digits + 1)
                        if Fraction(1, 50) < fraction < 5000:
                            figures = str(whole)
                            text = figures[0] + ("." + figures[1:] if digits > 1 else "") + f"e{power}"
                            known.setdefault(nearest(fraction, width), []).append(text)
            numbers = [number for number in known if Fraction(1, 45) < exact(number) < 4500]
            self.assertGreater(len(numbers), 1000)
            for number in numbers:
                fewest = min(figures_of(text) for text in known[number])
                texts = [text for text in known[number] if figures_of(text) == fewest]
                self.assertEqual(briefest(number, width), nearest_of_texts(exact(number), texts))

    def test_powers_of_two_and_those_beside(self):
        for width in WIDTHS:
            for power in list(range(-70, 71)) + list(range(-900, 901, 50)) + [-1300, 1300]:
                for number in beside((1, power), width):
                    text = self.check(number, width)
                    self.assertEqual(briefest((-number[0], number[1]), width), "-" + text)

    def test_where_the_nearest_text_is_read_as_another(self):
        """Below a power of two what is read as it ends sooner, so the text that is further off may be the one."""
        found = 0
        for width in WIDTHS:
            for power in range(-900, 901):
                number = (1, power)
                text = briefest(number, width)
                digits = figures_of(text)
                near_by = written(value(number), digits)
                if near_by != text:
                    found += 1
                    self.assertNotEqual(near(read_text(near_by), width), number)
                    self.check(number, width)
        self.assertGreater(found, 10)

    def test_the_greatest_whole(self):
        for width in WIDTHS:
            for power in (-900, -width, -60, -1, 0, 1, 60, 900):
                self.check((2 ** width - 1, power), width)
                self.check((1 - 2 ** width, power), width)

    def test_numbers_with_few_figures(self):
        dice = random.Random(108)
        for width in WIDTHS:
            for digits in {1, 2, FEW[width]}:
                for _ in range(60):
                    power = dice.choice((0, dice.randrange(-20, 20), dice.randrange(-270, 270)))
                    fraction = dice.choice((1, -1)) * some_whole(dice, digits) * Fraction(10) ** power
                    number = nearest(fraction, width)
                    text = self.check(number, width)
                    self.assertLessEqual(figures_of(text), digits)

    def test_other_numbers(self):
        for width in WIDTHS:
            for number in sample_numbers(width)[::3]:
                self.check(number, width)

    def test_none_with_fewer_figures_and_none_nearer(self):
        """Every text of so many figures in reach, and of fewer, is read."""
        dice = random.Random(109)
        for width in WIDTHS:
            for _ in range(60):
                first = dice.choice((0, 5, dice.randrange(-900, 900)))
                number = some_number(dice, width, first, first + 1)
                size, text = abs(exact(number)), briefest(number, width).strip("-")
                digits = figures_of(text)
                reach = 2 * step_at(size, width)
                for count in range(1, digits + 1):
                    for other in texts_within(size, reach, count):
                        if nearest(read_exactly(other), width) == form_of(size):
                            self.assertEqual(count, digits)
                            far, farther = abs(read_exactly(text) - size), abs(read_exactly(other) - size)
                            self.assertLessEqual(far, farther)

    def test_of_two_equally_near_the_even_one(self):
        """Numbers in the midst of two texts, where either is read as the number."""
        self.assertEqual(briefest((129, -2), 8), "3.22e1")
        self.assertEqual(briefest((-131, -2), 8), "-3.28e1")
        for width in WIDTHS:
            # Midway lie odd multiples of five halves alone: the figure below is 2 or 7.
            found = {"2": 0, "8": 0}
            for power in range(-17, -1):
                for more in range(1, 80, 2):
                    number = (2 ** (width - 1) + more, power)
                    text = self.check(number, width)
                    below, above = texts_around(exact(number), figures_of(text))
                    if read_exactly(below) + read_exactly(above) == 2 * exact(number):
                        self.assertEqual(near(read_text(below), width), number)
                        self.assertEqual(near(read_text(above), width), number)
                        found[text.partition("e")[0][-1]] += 1
            self.assertGreater(min(found.values()), 0, found)


def figures_of(text):
    return len(text.partition("e")[0].strip("-").replace(".", ""))


def texts_within(size, reach, digits):
    """Texts of so many figures no further from a size than the reach, a few beside the size if there are many."""
    power = len(str(size.numerator)) - len(str(size.denominator)) - digits
    texts = []
    for shift in (0, 1, 2):
        step = Fraction(10) ** (power + shift)
        for whole in range(size // step - 3, size // step + 5):
            if 10 ** (digits - 1) <= whole < 10 ** digits and abs(whole * step - size) <= reach:
                figures = str(whole)
                point = "." + figures[1:] if digits > 1 else ""
                texts.append(figures[0] + point + f"e{power + shift + digits - 1}")
    return texts


if __name__ == "__main__":
    unittest.main()
