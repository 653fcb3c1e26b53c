"""[100]: decimal texts, read exactly and as measures."""

import random
import unittest
from fractions import Fraction

from helper import WIDTHS, asked, exact, last_digit, nearest, read_exactly, refused, told
from trueline.decimals import read_measure, read_text
from trueline.errors import BadText, TooGreat
from trueline.numbers import is_measure, near

FORTY = "1234567890" * 4


def place_of(text):
    """The greatest count of signs with which a text that writes a number begins."""
    # What begins such a text is one itself, or is one with a figure more.
    fits = [n for n in range(len(text) + 1) if any(read_exactly(text[:n] + more) is not None for more in ("", "0"))]
    return max(fits)


class Reading(unittest.TestCase):
    def check(self, text, fraction):
        got = asked(self, read_text, text)
        self.assertEqual(got, told(fraction), text)
        self.assertEqual([type(got)] + [type(part) for part in got], [tuple, int, int], text)

    def test_the_texts_of_the_document(self):
        self.check("-.5", Fraction(-1, 2))
        self.check("7.", Fraction(7))
        self.check("0012e-003", Fraction(12, 1000))

    def test_one_figure(self):
        for figure in range(10):
            self.check(f"{figure}", Fraction(figure))
            self.check(f"-{figure}", Fraction(-figure))
            self.check(f".{figure}", Fraction(figure, 10))
            self.check(f"-.{figure}", Fraction(-figure, 10))
            self.check(f"{figure}.", Fraction(figure))
            self.check(f"-{figure}.e2", Fraction(-figure * 100))

    def test_forty_figures(self):
        for figures in (FORTY, "9" * 40, "0" * 40, "0" * 39 + "7", "1" + "0" * 39):
            for place in range(41):
                text = figures[:place] + "." + figures[place:]
                self.check(text, Fraction(int(figures), 10 ** (40 - place)))
                self.check("-" + text, -Fraction(int(figures), 10 ** (40 - place)))
            self.check(figures, Fraction(int(figures)))
            self.check(figures + "e-999", Fraction(int(figures), 10 ** 999))
            self.check("-." + figures + "e999", Fraction(-int(figures)) * 10 ** 959)

    def test_powers(self):
        for power in ("0", "00", "000", "1", "01", "001", "9", "09", "10", "010", "99", "099", "100", "999"):
            for ahead in ("3", "-3", "2.5", ".04", "-70.", "0", "-.0"):
                fraction = read_exactly(ahead)
                self.check(ahead + "e" + power, fraction * 10 ** int(power))
                self.check(ahead + "e-" + power, fraction / 10 ** int(power))

    def test_nought_in_each_form(self):
        for text in ("0", "-0", ".0", "0.", "-.0", "00.00", "0e999", "-0e-999", "0" * 40, "0e-0"):
            self.assertEqual(read_text(text), (0, 1), text)

    def test_what_is_told_is_in_lowest_terms(self):
        self.assertEqual(read_text("0.75"), (3, 4))
        self.assertEqual(read_text("-12.50"), (-25, 2))
        self.assertEqual(read_text("5e-1"), (1, 2))
        self.assertEqual(read_text("4096e-3"), (512, 125))
        self.assertEqual(read_text("250e-2"), (5, 2))


class Refusing(unittest.TestCase):
    def check(self, text, at):
        refusal = refused(self, BadText, read_text, text)
        self.assertEqual(refusal.at, at, text)
        self.assertIs(type(refusal.at), int, text)
        self.assertEqual(place_of(text), at, text)

    def test_what_ends_too_early(self):
        for text in ("", "-", ".", "-.", "1e", "-1e", "1e-", ".5e", "5.e-", FORTY + "e", FORTY + ".e-"):
            self.check(text, len(text))

    def test_two_points_and_two_signs(self):
        self.check("..", 1)
        self.check("1..", 2)
        self.check("1.2.", 3)
        self.check("1.2.3", 3)
        self.check(".1.", 2)
        self.check("--1", 1)
        self.check("-1-", 2)
        self.check("1-2", 1)
        self.check("1e--2", 3)
        self.check("1e-2-", 4)
        self.check("-.-5", 2)

    def test_a_point_in_the_power(self):
        self.check("1e.5", 2)
        self.check("1e5.", 3)
        self.check("1e5.0", 3)

    def test_too_many_figures(self):
        self.check(FORTY + "1", 40)
        self.check("-" + FORTY + "1", 41)
        self.check("0" * 41, 40)
        self.check(FORTY + ".1", 41)
        self.check("." + FORTY + "1", 41)
        self.check("-." + FORTY + "1", 42)
        self.check("12." + "3" * 38 + "4e5", 41)
        self.check(FORTY + "1x", 40)
        self.check("9" * 5000, 40)

    def test_too_many_figures_of_the_power(self):
        self.check("1e1234", 5)
        self.check("1e-1234", 6)
        self.check("1e0000", 5)
        self.check("-1.5e0012", 8)

    def test_a_power_without_figures(self):
        self.check("1ex", 2)
        self.check("1e-x", 3)
        self.check("1ee5", 2)
        self.check("1e5e5", 3)

    def test_no_figures_ahead_of_the_power(self):
        self.check("e5", 0)
        self.check("-e5", 1)
        self.check(".e5", 1)
        self.check("-.e5", 2)

    def test_signs_that_have_no_place(self):
        self.check(" 1", 0)
        self.check("1 ", 1)
        self.check(" ", 0)
        self.check("- 1", 1)
        self.check("1 2", 1)
        self.check("1e5 ", 3)
        self.check("1e 5", 2)
        self.check("+1", 0)
        self.check("1e+5", 2)
        self.check("-+1", 1)
        self.check("1E5", 1)
        self.check("1.5E5", 3)
        self.check("1_0", 1)
        self.check("1,5", 1)
        self.check("0x10", 1)
        self.check("1/2", 1)
        self.check("inf", 0)
        self.check("-nan", 1)

    def test_each_sign_by_itself_and_behind_a_figure(self):
        signs = [chr(code) for code in range(32, 127) if chr(code) not in "0123456789%"]
        for sign in signs:
            self.check(sign, 1 if sign in "-." else 0)
            if sign not in ".":
                self.check("7" + sign, 2 if sign == "e" else 1)

    def test_texts_by_chance(self):
        dice = random.Random(100)
        kinds = {True: 0, False: 0}
        for _ in range(6000):
            signs = dice.choice(("-.e01", "0123456789.e-", "12345", "-.e0 +E"))
            text = "".join(dice.choice(signs) for _ in range(dice.choice((1, 2, 3, 4, 5, 6, 8, 45))))
            fraction = read_exactly(text)
            kinds[fraction is None] += 1
            if fraction is None:
                self.check(text, place_of(text))
            else:
                self.assertEqual(read_text(text), told(fraction), text)
        self.assertGreater(min(kinds.values()), 1000)

    def test_texts_with_one_sign_wrong(self):
        dice = random.Random(101)
        for _ in range(2000):
            text = dice.choice(("-12.5e-03", "7.e12", ".25", FORTY + "e999", "-." + FORTY, "1." + "2" * 39 + "e-1"))
            at = dice.randrange(len(text) + 1)
            text = text[:at] + dice.choice("-.e0 +E~") + text[at + dice.randrange(2):]
            if read_exactly(text) is None:
                self.check(text, place_of(text))
            else:
                self.assertEqual(read_text(text), told(read_exactly(text)), text)


class Measures(unittest.TestCase):
    def check(self, text, width):
        """Tells whether it was a measure."""
        number = nearest(read_exactly(text), width)
        if number[0] != 0 and not Fraction(1, 2 ** 60) <= abs(exact(number)) <= 2 ** 60:
            refused(self, TooGreat, read_measure, text, width)
            return False
        self.assertEqual(asked(self, read_measure, text, width), number, (text, width))
        self.assertTrue(is_measure(number, width))
        self.assertEqual(near(read_text(text), width), number)
        return True

    def test_ordinary_texts(self):
        for width in WIDTHS:
            for text in ("1", "-1", "0.1", "-.3e-5", "12345.678", "1e18", "9e-19", "2e-3", "3.", "-7e7"):
                self.assertTrue(self.check(text, width), text)
        self.assertEqual(read_measure("0.1", 8), (205, -11))
        self.assertEqual(read_measure("-257", 8), (-1, 8))
        self.assertEqual(read_measure("259", 8), (65, 2))

    def test_nought_is_a_measure(self):
        for width in WIDTHS:
            for text in ("0", "-0", ".0", "0e999", "0e-999", "-0.000e12"):
                self.assertEqual(read_measure(text, width), (0, 0))

    def test_at_and_beside_the_greatest(self):
        greatest = 2 ** 60
        for width in WIDTHS:
            # The step above the greatest measure, and half of it, where the greatest is the even one.
            half = Fraction(2) ** (60 - width)
            exact_half = str(greatest + int(half)) if width <= 60 else "1152921504606846976.0625"
            self.assertEqual(read_exactly(exact_half), greatest + half)
            for sign in ("", "-"):
                self.assertTrue(self.check(sign + str(greatest), width))
                self.assertTrue(self.check(sign + exact_half, width))
                beyond = exact_half + ("" if "." in exact_half else ".") + "000000000001"
                self.assertFalse(self.check(sign + beyond, width))
                self.assertTrue(self.check(sign + str(greatest - 1), width))
                self.assertTrue(self.check(sign + "1152921504606846975.999999999999", width))
                self.assertFalse(self.check(sign + str(2 * greatest), width))
        self.assertEqual(read_measure(str(greatest), 8), (1, 60))
        self.assertEqual(last_digit((1, 60), 8), "0")

    def test_at_and_beside_the_least(self):
        least = Fraction(1, 2 ** 60)
        for width in WIDTHS:
            # Below the least measure the steps are half as wide.
            edge = least - Fraction(1, 2 ** (61 + width))
            for sign in ("", "-"):
                for fraction in (least, edge):
                    figures = fraction * 10 ** 58 // 1
                    above, below = f"{sign}{figures + 1}e-58", f"{sign}{figures}e-58"
                    self.assertTrue(self.check(above, width), above)
                    self.assertEqual(self.check(below, width), fraction == least, below)
        self.assertEqual(read_measure("8673617379884035472059622406959533691407e-58", 53), (1, -60))

    def test_what_is_too_great_or_too_little(self):
        for width in WIDTHS:
            for text in ("1e999", "-1e999", "1e-999", "-1e-999", "2e18", "-2e18", "8e-19", "-8e-19", "9" * 40):
                refused(self, TooGreat, read_measure, text, width)

    def test_what_writes_no_number(self):
        for width in WIDTHS:
            for text, at in (("", 0), ("1e999x", 5), ("2e18 ", 4), ("1e1000", 5), ("-", 1), ("abc", 0), ("1e-", 3)):
                self.assertEqual(refused(self, BadText, read_measure, text, width).at, at)

    def test_texts_by_chance(self):
        dice = random.Random(102)
        for width in WIDTHS:
            kinds = {True: 0, False: 0}
            for _ in range(300):
                figures = "".join(dice.choice("0123456789") for _ in range(dice.choice((1, 3, 17, 40))))
                at = dice.randrange(len(figures) + 1)
                text = f"{dice.choice(('', '-'))}{figures[:at]}.{figures[at:]}e{dice.randrange(-30, 25)}"
                kinds[self.check(text, width)] += 1
            self.assertGreater(min(kinds.values()), 20)


if __name__ == "__main__":
    unittest.main()
