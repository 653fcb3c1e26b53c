"""[110]: the desk, row by row."""

import itertools
import random
import unittest
from fractions import Fraction

from helper import (asked, briefest_text, check_weights, exact, form_of, nearest, nearest_root, nearest_text,
                    read_exactly)
from trueline.desk import play

TABLE = ("row 1 2 0.1", "row -3 4.5 0.2", "row 2.25 -7 0.3", "row 1 1e3 -1e-3", "row 12 .5 7.")
COLUMNS = (("1", "-3", "2.25", "1", "12"), ("2", "4.5", "-7", "1e3", ".5"), ("0.1", "0.2", "0.3", "-1e-3", "7."))
SOME_WIDTHS = (8, 53, 64)


def columns_read(width):
    return [[exact(nearest(read_exactly(text), width)) for text in column] for column in COLUMNS]


def refusal(name):
    return "refused: " + name


class Desk(unittest.TestCase):
    def played(self, *rows):
        answers = asked(self, play, "\n".join(rows))
        self.assertIs(type(answers), list)
        self.assertEqual([type(answer) for answer in answers], [str] * len(answers))
        return answers

    def last(self, *rows):
        return self.played(*rows)[-1]

    def at_table(self, width, *rows):
        """The answers to rows behind those of the table."""
        answers = self.played(f"width {width}", *TABLE, *rows)
        self.assertEqual(answers[:6], ["ok", "1", "2", "3", "4", "5"])
        return answers[6:]

    def check(self, expected, *rows):
        self.assertEqual(self.last(*rows), expected, rows)


class Beginning(Desk):
    def test_no_rows(self):
        self.assertEqual(self.played(""), [])
        self.assertEqual(self.played("", "", ""), [])
        self.assertEqual(self.played(" ", "     ", ""), [])

    def test_width_digits_and_table(self):
        text = nearest_text(exact(nearest(Fraction(1, 10), 53)), 17)
        self.assertEqual(text, "1.0000000000000001e-1")
        self.assertEqual(self.played("least", "row .1", "sum 1"), [refusal("NoRow"), "1", text])

    def test_each_text_begins_anew(self):
        self.played("width 8", "digits 2", "row 1", "row 2")
        self.assertEqual(self.played("least", "row .1", "sum 1"), [refusal("NoRow"), "1", "1.0000000000000001e-1"])


class Blanks(Desk):
    def test_blanks_ahead_behind_and_between(self):
        plain = self.played("width 8", "row 1 2", "row 3 5", "dot 1 2", "line 1 2", "brief .1", "least")
        for blanks in (" ", "   "):
            rows = ("width 8", "row 1 2", "row 3 5", "dot 1 2", "line 1 2", "brief .1", "least")
            self.assertEqual(self.played(*[blanks + row for row in rows]), plain)
            self.assertEqual(self.played(*[row + blanks for row in rows]), plain)
            self.assertEqual(self.played(*[row.replace(" ", blanks) for row in rows]), plain)
            self.assertEqual(self.played(*[blanks + row.replace(" ", blanks) + blanks for row in rows]), plain)

    def test_rows_of_blanks_are_passed_over(self):
        plain = self.played("row 1", "sum 1", "bad", "drop 1")
        self.assertEqual(plain, ["1", "1.0000000000000000e0", refusal("BadRow"), "ok"])
        self.assertEqual(self.played("", "row 1", " ", "", "sum 1", "    ", "bad", "", "drop 1", "", "  "), plain)

    def test_no_blank_between(self):
        self.check(refusal("BadRow"), "row 1", "sum1")
        self.check(refusal("BadText"), "row 1,2")


class Settings(Desk):
    def test_each_width(self):
        for width in range(8, 65):
            answers = self.played(f"width {width}", "row .1", "digits 40", "sum 1", "brief .1")
            tenth = exact(nearest(Fraction(1, 10), width))
            self.assertEqual(answers, ["ok", "1", "ok", nearest_text(tenth, 40), briefest_text(tenth, width)])

    def test_each_count_of_digits(self):
        for digits in range(1, 41):
            answers = self.played("row 1 3", "row 2 5", "row 4 4", f"digits {digits}", "mean 1", "sum 2", "quick 1")
            mean = exact(nearest(Fraction(7, 3), 53))
            bound = exact(nearest(Fraction(21, 2 ** 52), 53))
            quick = nearest_text(Fraction(7), digits) + " " + nearest_text(bound, digits)
            self.assertEqual(answers[3:], ["ok", nearest_text(mean, digits), nearest_text(Fraction(12), digits), quick])

    def test_a_width_in_the_midst(self):
        answers = self.played("digits 3", "row 1 2", "row 3 4", "width 8", "least", "sum 1", "show 1", "drop 1",
                              "row 257", "row .1", "sum 1")
        none = refusal("NoRow")
        self.assertEqual(answers, ["ok", "1", "2", "ok", none, none, none, none, "1", "2", "2.56e2"])

    def test_the_same_width_takes_the_rows_too(self):
        self.assertEqual(self.played("row 1 2", "width 53", "least"), ["1", "ok", refusal("NoRow")])

    def test_digits_leave_the_table(self):
        answers = self.played("row 1 2", "digits 1", "sum 2", "digits 2", "sum 2")
        self.assertEqual(answers, ["1", "ok", "2e0", "ok", "2.0e0"])

    def test_a_refused_setting_changes_nothing(self):
        for row in ("width 7", "width 65", "width 0", "width", "width 8 8", "digits 41", "digits 0", "digits 2 2"):
            answers = self.played("width 9", "digits 3", "row .1", row, "sum 1", "brief .1", "row 3")
            self.assertEqual(answers, ["ok", "ok", "1", refusal("BadRow"), "1.00e-1", "1e-1", "2"], row)


class Rows(Desk):
    def test_one_to_six_texts(self):
        for count in range(1, 7):
            texts = [".1", "-2", "3e5", "4.", "0", "1e-7"][:count]
            answers = self.played("row " + " ".join(texts), "row " + " ".join(texts), "show 2", "row" + " 7" * count)
            self.assertEqual(answers, ["1", "2", "1e-1 -2e0 3e5 4e0 0 1e-7"[:len(answers[2])], "3"])
            self.assertEqual(len(answers[2].split(" ")), count)
            self.check(refusal("NoColumn"), "row " + " ".join(texts), f"sum {count + 1}")

    def test_sixty_rows_and_one_more(self):
        rows = [f"row {count} {count * count}" for count in range(1, 61)]
        answers = self.played(*rows, "row 61 3", "sum 1", "drop 60", "row 70 1", "sum 1", "row 1 1", "show 60")
        self.assertEqual(answers[:60], [str(count) for count in range(1, 61)])
        total, other = nearest_text(Fraction(1830), 17), nearest_text(Fraction(1840), 17)
        many = refusal("TooMany")
        self.assertEqual(answers[60:], [many, total, "ok", "60", other, many, "7e1 1e0"])

    def test_drop(self):
        rows = ["row 1", "row 2", "row 3", "digits 1"]
        for count, left in ((1, ("2e0", "3e0")), (2, ("1e0", "3e0")), (3, ("1e0", "2e0"))):
            answers = self.played(*rows, f"drop {count}", "show 1", "show 2", "show 3")
            self.assertEqual(answers[4:], ["ok", *left, refusal("NoRow")])
        self.check(refusal("NoRow"), *rows, "drop 4")
        self.check(refusal("NoRow"), *rows, "drop 999")
        self.check(refusal("NoRow"), "drop 1")

    def test_the_last_row_dropped(self):
        answers = self.played("row 1 2", "drop 1", "least", "sum 1", "drop 1", "order 1", "row 1 2 3", "least")
        none = refusal("NoRow")
        self.assertEqual(answers, ["1", "ok", none, none, none, none, "1", "1 1"])

    def test_order(self):
        rows = ["row 3 1", "row -1 2", "row 3 3", "row 0 4", "row -1 5", "row 2.5 6"]
        answers = self.played(*rows, "order 1", *[f"show {count}" for count in range(1, 7)])
        self.assertEqual(answers[6:], ["ok", "-1e0 2e0", "-1e0 5e0", "0 4e0", "2.5e0 6e0", "3e0 1e0", "3e0 3e0"])
        answers = self.played(*rows, "order 1", "order 2", *[f"show {count}" for count in range(1, 7)])
        self.assertEqual(answers[8:], ["3e0 1e0", "-1e0 2e0", "3e0 3e0", "0 4e0", "-1e0 5e0", "2.5e0 6e0"])

    def test_dropped_behind_an_order(self):
        answers = self.played("row 3", "row 1", "row 2", "order 1", "drop 1", "show 1", "show 2", "row 1", "show 3")
        self.assertEqual(answers[3:], ["ok", "ok", "2e0", "3e0", "3", "1e0"])


class Telling(Desk):
    def test_sum_mean_spread_root_and_middle(self):
        for width in SOME_WIDTHS:
            for place, column in enumerate(columns_read(width)):
                mean = sum(column) / 5
                spread = sum((number - mean) ** 2 for number in column) / 4
                numbers = [nearest(part, width) for part in (sum(column), mean, spread, sorted(column)[2])]
                numbers.insert(3, nearest_root(spread, width))
                words = ("sum", "mean", "spread", "root", "middle")
                answers = self.at_table(width, *[f"{word} {place + 1}" for word in words])
                self.assertEqual(answers, [nearest_text(exact(number), 17) for number in numbers])

    def test_the_middle_of_two(self):
        for width in SOME_WIDTHS:
            column = sorted(columns_read(width)[2][:4])
            number = nearest((column[1] + column[2]) / 2, width)
            answers = self.at_table(width, "drop 5", "middle 3")
            self.assertEqual(answers, ["ok", nearest_text(exact(number), 17)])

    def test_of_one_row(self):
        for width in SOME_WIDTHS:
            answers = self.played(f"width {width}", "digits 2", "row -2.5", "sum 1", "mean 1", "spread 1", "root 1",
                                  "middle 1", "dot 1 1", "least", "show 1")
            texts = ["-2.5e0", "-2.5e0", "0", "0", "-2.5e0", nearest_text(exact(nearest(Fraction(25, 4), width)), 2)]
            self.assertEqual(answers[3:], [*texts, "1 1", "-2.5e0"])

    def test_quick(self):
        for width in SOME_WIDTHS:
            for place, column in enumerate(columns_read(width)):
                whole = sizes = Fraction(0)
                for number in column:
                    whole = exact(nearest(whole + number, width))
                    sizes = exact(nearest(sizes + abs(number), width))
                bound = exact(nearest(5 * sizes * Fraction(2) ** (1 - width), width))
                answer = self.at_table(width, f"quick {place + 1}")[0]
                self.assertEqual(answer, nearest_text(whole, 17) + " " + nearest_text(bound, 17))

    def test_quick_goes_by_the_order_of_the_rows(self):
        rows = ["width 8", "digits 2", "row 256 1", "row 1 2", "row -256 3"]
        self.assertEqual(self.played(*rows, "quick 1", "sum 1")[5:], ["0 1.2e1", "1.0e0"])
        self.assertEqual(self.played(*rows, "order 1", "quick 1", "sum 1")[5:], ["ok", "1.0e0 1.2e1", "1.0e0"])
        self.assertEqual(self.played(*rows, "drop 2", "row 1 2", "quick 1")[7:], ["1.0e0 1.2e1"])

    def test_dot(self):
        for width in SOME_WIDTHS:
            columns = columns_read(width)
            for one, other in itertools.product(range(3), repeat=2):
                number = nearest(sum(x * y for x, y in zip(columns[one], columns[other])), width)
                answer = self.at_table(width, f"dot {one + 1} {other + 1}")[0]
                self.assertEqual(answer, nearest_text(exact(number), 17))

    def test_line(self):
        for width in SOME_WIDTHS:
            columns = columns_read(width)
            for one, other in itertools.product(range(3), repeat=2):
                x, y = columns[one], columns[other]
                under = 5 * sum(a * a for a in x) - sum(x) ** 2
                slope = (5 * sum(a * b for a, b in zip(x, y)) - sum(x) * sum(y)) / under
                offset = (sum(y) - slope * sum(x)) / 5
                texts = [nearest_text(exact(nearest(part, width)), 17) for part in (slope, offset)]
                self.assertEqual(self.at_table(width, f"line {one + 1} {other + 1}"), [" ".join(texts)])

    def test_line_by_hand(self):
        rows = ["digits 2", "row 1 5", "row 2 7", "row 3 9"]
        self.check("2.0e0 3.0e0", *rows, "line 1 2")
        self.check("5.0e-1 -1.5e0", *rows, "line 2 1")
        self.check("1.0e0 0", *rows, "line 1 1")

    def test_fit_by_hand(self):
        rows = ["digits 2"] + [f"row {x} {y} {1 + 2 * x - 3 * y} {x * x}" for x, y in ((1, 2), (2, 1), (3, 5), (7, 4))]
        self.check("1.0e0 2.0e0 -3.0e0", *rows, "fit 3 1 2")
        self.check("1.0e0 -3.0e0 2.0e0", *rows, "fit 3 2 1")
        self.check("0 1.0e0", *rows, "fit 1 1")
        self.check("0 0 1.0e0", *rows, "fit 2 1 2")
        self.check("0 0 1.0e0 0", *rows, "fit 2 1 2 4")
        self.check("-5.0e-1 1.5e0 5.0e-1", *rows, "fit 1 2 3")

    def test_fit_upon_one_is_the_line(self):
        for width in SOME_WIDTHS:
            slope_and_offset, parts = self.at_table(width, "line 1 2", "fit 2 1")
            self.assertEqual(slope_and_offset.split(" "), parts.split(" ")[::-1])

    def test_least(self):
        for width in SOME_WIDTHS:
            self.assertEqual(self.at_table(width, "least"), ["3 2"])
            self.assertEqual(self.at_table(width, "drop 3", "least", "order 2", "least"), ["ok", "2 1", "ok", "3 1"])
        self.check("1 2", "row 5 -1 -1", "row -1 3 -1", "least")

    def test_show_and_brief(self):
        for width in SOME_WIDTHS:
            columns = columns_read(width)
            for place in range(5):
                texts = [briefest_text(column[place], width) for column in columns]
                self.assertEqual(self.at_table(width, f"show {place + 1}"), [" ".join(texts)])
                briefs = [f"brief {column[place]}" for column in COLUMNS]
                self.assertEqual(self.at_table(width, *briefs), texts)
        self.check("2.56e2", "width 8", "brief 257")
        self.check("3.333333333333333e-1", "brief .333333333333333314829616256247390992939")
        self.check("0", "brief -.000")

    def test_digits_do_not_bear_upon_show_and_brief(self):
        self.assertEqual(self.played("digits 1", "row 123.456", "show 1", "brief 7.25", "least")[1:],
                         ["1", "1.23456e2", "7.25e0", "1 1"])

    def test_answers_beyond_the_measures(self):
        for width in SOME_WIDTHS:
            rows = [f"width {width}", "digits 3", "row 1e18 9e-19", "row -1e18 1e-18"]
            columns = [[exact(nearest(Fraction(text), width)) for text in column]
                       for column in (("1e18", "-1e18"), ("9e-19", "1e-18"))]
            squares = [nearest(sum(number ** 2 for number in column), width) for column in columns]
            texts = [nearest_text(exact(square), 3) for square in squares]
            self.assertEqual(self.played(*rows, "dot 1 1", "dot 2 2")[4:], texts)


class Refusing(Desk):
    def test_words(self):
        for row in ("sums 1", "Sum 1", "SUM 1", "su 1", "1 sum", "1", "-", "row1 2", "e", "ok", "refused: NoRow"):
            self.check(refusal("BadRow"), "row 1 2", row)
            self.check(refusal("BadRow"), row)

    def test_how_many_words(self):
        one = ("width", "digits", "drop", "order", "sum", "mean", "spread", "root", "middle", "quick", "show", "brief")
        for word in one:
            for row in (word, word + " 8 8", word + " 8 8 8"):
                self.check(refusal("BadRow"), "row 1 2", row)
        for word in ("dot", "line"):
            for row in (word, word + " 1", word + " 1 2 3"):
                self.check(refusal("BadRow"), "row 1 2 3", row)
        for row in ("fit", "fit 1", "fit 1 2 3 4 5", "least 1", "least 1 1", "row", "row 1 2 3 4 5 6 7"):
            self.check(refusal("BadRow"), "row 1 2 3 4 5 6", row)

    def test_counts_that_are_none(self):
        counts = ("0", "00", "01", "010", "1000", "9999", "-1", "+1", "1.", "1.0", "1e0", "x", "1x", "x1", "1_0", "1,2")
        one = ("width", "digits", "drop", "order", "sum", "mean", "spread", "root", "middle", "quick", "show")
        for count in counts + ("08", "064"):
            for word in one:
                self.check(refusal("BadRow"), "row 1 2", f"{word} {count}")
            for word in ("dot", "line", "fit"):
                self.check(refusal("BadRow"), "row 1 2", f"{word} {count} 2")
                self.check(refusal("BadRow"), "row 1 2", f"{word} 1 {count}")
            self.check(refusal("BadRow"), "row 1 2", f"fit 1 2 {count}")
            self.check(refusal("BadRow"), "row 1 2", f"fit 1 2 3 {count}")

    def test_widths_and_digits(self):
        for count in (1, 2, 7, 65, 66, 99, 100, 999):
            self.check(refusal("BadRow"), f"width {count}")
        for count in (41, 42, 99, 100, 999):
            self.check(refusal("BadRow"), f"digits {count}")
        for row in ("width 8", "width 64", "digits 1", "digits 40"):
            self.check("ok", row)

    def test_like_places_of_a_fit(self):
        rows = ["row 1 2 3", "row 2 5 1", "row 4 2 2", "row 5 5 7", "row 0 1 1"]
        for row in ("fit 1 2 2", "fit 1 1 1", "fit 1 2 3 2", "fit 1 2 2 3", "fit 1 3 2 2", "fit 1 9 9", "fit 9 2 2"):
            self.check(refusal("BadRow"), *rows, row)
            self.check(refusal("BadRow"), row)
        for row in ("fit 1 1", "fit 1 1 2", "fit 1 2 1", "fit 1 2 3 1"):
            self.assertNotIn("refused", self.last(*rows, row), row)

    def test_texts_that_are_no_measures(self):
        for text in ("x", "-", "1e", "1e1234", "+1", "1E5", "1..2", "1" * 41, "."):
            for row in (f"row {text}", f"row 1 {text}", f"row {text} 1", f"brief {text}"):
                self.check(refusal("BadText"), row)
        for text in ("2e18", "-2e18", "1e999", "8e-19", "-1e-999", "1152921504606847105"):
            for row in (f"row {text}", f"row 1 {text}", f"row {text} 1", f"brief {text}"):
                self.check(refusal("TooGreat"), row)
        for text in ("1152921504606846976", "1152921504606847104", "8.673617379884036e-19", "0e999"):
            self.check("1", f"row {text}")

    def test_the_first_text_that_is_not_read(self):
        for row in ("row x 2e18", "row 1 x 2e18", "row 1 2 3 4 - 1e-99"):
            self.check(refusal("BadText"), row)
        for row in ("row 2e18 x", "row 1 2e18 x", "row 1 2 3 4 1e-99 -"):
            self.check(refusal("TooGreat"), row)

    def test_rows_of_another_count(self):
        for count, other in itertools.permutations(range(1, 7), 2):
            self.check(refusal("Unfit"), "row" + " 1" * count, "row" + " 2" * other)

    def test_no_row(self):
        asking = ("drop 1", "order 1", "sum 1", "mean 1", "spread 1", "root 1", "middle 1", "quick 1", "dot 1 1",
                  "line 1 1", "fit 1 1", "fit 1 2 3 4", "least", "show 1")
        for row in asking:
            self.check(refusal("NoRow"), row)
            self.check(refusal("NoRow"), "row 1", "drop 1", row)
            self.check(refusal("NoRow"), "row 1 2 3 4", "width 53", row)
        for row in ("drop 3", "drop 4", "drop 999", "show 3", "show 100"):
            self.check(refusal("NoRow"), "row 1 2 3 4 5", "row 1 2 3 4 5", row)

    def test_no_column(self):
        rows = ["row 1 2", "row 3 5", "row 4 4"]
        for word in ("order", "sum", "mean", "spread", "root", "middle", "quick"):
            for count in (3, 7, 999):
                self.check(refusal("NoColumn"), *rows, f"{word} {count}")
        for row in ("dot 3 1", "dot 1 3", "line 3 1", "line 1 3", "fit 3 1", "fit 1 3", "fit 1 2 3", "fit 1 1 2 3"):
            self.check(refusal("NoColumn"), *rows, row)

    def test_no_line(self):
        rows = ["row 7 1", "row 7 2", "row 7 5"]
        self.check(refusal("NoLine"), *rows, "line 1 2")
        self.check(refusal("NoLine"), *rows, "line 1 1")
        self.check("0 7.0000000000000000e0", *rows, "line 2 1")
        self.check(refusal("NoLine"), "row 1 2", "line 1 2")
        # Unlike texts may be read as one number.
        self.check(refusal("NoLine"), "width 8", "row 256 1", "row 257 2", "line 1 2")

    def test_dependent(self):
        self.check("refused: Dependent 1 2 -1", "row 1 3 0", "row 3 7 5", "row 2 5 1", "fit 3 1 2")
        self.check("refused: Dependent 7 -1", "row 7 1", "row 7 2", "fit 2 1")
        self.check("refused: Dependent 7 -1", "row 7 1", "row 7 2", "fit 1 1")
        asking = {"fit 1 2 3 4": (2, 3, 4), "fit 1 4 2": (4, 2), "fit 3 3": (3,), "fit 4 1 2 3": (1, 2, 3)}
        for row, places in asking.items():
            for count in (1, 2, 3, 4):
                dice = random.Random(count)
                columns = [[dice.randrange(-9, 10) for _ in range(count)] for _ in range(2)]
                columns.append([3] * count)
                columns.append([2 * one - 3 * other + 4 for one, other in zip(*columns[:2])])
                rows = ["row " + " ".join(str(number) for number in numbers) for numbers in zip(*columns)]
                answer = self.last(*rows, row)
                if "refused" not in answer:
                    self.assertEqual(row, "fit 1 4 2")
                    continue
                self.assertEqual(answer[:19], "refused: Dependent ")
                weights = [int(word) for word in answer[19:].split(" ")]
                lists = [[(1, 0)] * count] + [[form_of(Fraction(n)) for n in columns[place - 1]] for place in places]
                check_weights(self, weights, lists)

    def test_of_two_that_are_due_the_first(self):
        full = ["row 1 2"] * 60
        for expected, *rows in (
            ("BadRow", "sum 0"), ("BadRow", "sum 1 1"), ("BadRow", "fit 5 6 6"), ("BadRow", "least 5"),
            ("BadRow", "row 1", "sum 9 x"), ("BadRow", "row 1 2", "row 1 2 x 4 5 6 7"), ("BadRow", "brief x y"),
            ("BadRow", "row 7", "row 7", "fit 1 1 1"), ("BadRow", *full, "row 1 2 3 4 5 6 7"), ("BadRow", *full, "row"),
            ("BadText", "row 1 2", "row x"), ("BadText", "row 1 2", "row 1 2 y"), ("BadText", *full, "row 1 y"),
            ("BadText", *full, "row 1 2 y"), ("BadText", "row 1 2", "row 1 y 2e18"),
            ("TooGreat", "row 1 2", "row 2e18"), ("TooGreat", *full, "row 1 2e18"), ("TooGreat", *full, "row 2e18 1 x"),
            ("Unfit", *full, "row 1"), ("Unfit", *full, "row 1 2 3"), ("TooMany", *full, "row 1 2"),
            ("NoRow", "sum 7"), ("NoRow", "order 9"), ("NoRow", "dot 8 9"), ("NoRow", "line 1 9"),
            ("NoRow", "fit 9 8 7"),
            ("NoColumn", "row 7 1", "row 7 2", "line 1 3"), ("NoColumn", "row 7 1", "line 3 1"),
            ("NoColumn", "row 7 1", "fit 1 3"), ("NoColumn", "row 7 1", "fit 3 1"),
            ("NoColumn", "row 7 1", "fit 1 1 3"),
        ):
            self.check(refusal(expected), *rows)

    def test_a_refused_row_between_good_ones_changes_nothing(self):
        good = ["width 9", "digits 5", "row 1 2.5 7", "row .1 -2 7", "row 3 1 7", "sum 1", "fit 1 2", "order 2",
                "show 1", "drop 2", "least", "quick 2", "row 4 5 7", "line 2 1", "middle 2", "show 3"]
        plain = self.played(*good)
        self.assertNotIn("refused", " ".join(plain))
        for row in ("x", "width 7", "width 65", "digits 41", "row", "row x", "row 1 2 x", "row 1 2 1e99", "drop 61",
                    "drop 0", "order 9", "order 0", "sum 9", "line 3 1", "fit 1 3", "fit 1 3 3", "show 61",
                    "brief x", "brief 1e99", "dot 1 9", "least 1", "row 1 2 3 4 5 6 7", "width 9 9"):
            for place in range(len(good) + 1):
                answers = self.played(*good[:place], row, *good[place:])
                self.assertEqual(answers.pop(place)[:9], "refused: ", row)
                self.assertEqual(answers, plain, row)
        for row in ("row 1", "row 1 2", "row 1 2 3 4"):
            for place in range(3, len(good) + 1):
                answers = self.played(*good[:place], row, *good[place:])
                self.assertEqual(answers.pop(place), refusal("Unfit"), row)
                self.assertEqual(answers, plain, row)

    def test_a_refused_row_at_a_full_table(self):
        rows = [f"row {count}" for count in range(60)]
        answers = self.played(*rows, "row 5", "row 5 5", "show 60", "sum 1", "drop 1", "row 5", "show 60")
        total = nearest_text(Fraction(1770), 17)
        self.assertEqual(answers[60:], [refusal("TooMany"), refusal("Unfit"), "5.9e1", total, "ok", "60", "5e0"])


class Promise(Desk):
    ASKED = ["sum 1", "mean 2", "spread 3", "root 1", "middle 2", "middle 3", "dot 1 2", "dot 3 3", "line 1 2",
             "line 3 1", "fit 1 2", "fit 1 2 3", "fit 3 1 2", "fit 2 2 3", "fit 1 3 2", "fit 4 1 2 3", "fit 1 5",
             "line 5 1"]

    def rows_of(self, dice, count):
        """Texts of far apart sizes that cancel, and a column that is all alike."""
        numbers = []
        for _ in range(count):
            sizes = [dice.randrange(-15, 15) for _ in range(4)]
            numbers.append([f"{dice.randrange(-999, 1000)}.{dice.randrange(1000)}e{size}" for size in sizes] + ["2.5"])
        for row in list(numbers[:count // 2]):
            numbers.append([text[1:] if text[0] == "-" else "-" + text for text in row[:4]] + ["2.5"])
        return ["row " + " ".join(row) for row in numbers]

    def test_answers_do_not_hang_on_the_order_of_the_rows(self):
        dice = random.Random(110)
        for width in SOME_WIDTHS:
            for count in (1, 2, 5, 12, 40):
                rows = self.rows_of(dice, count)
                ahead = [f"width {width}", f"digits {dice.choice((1, 17, 40))}"]
                plain = self.played(*ahead, *rows, *self.ASKED)
                self.assertEqual(plain, [answer for answer in plain if answer != refusal("BadRow")])
                orders = [rows[::-1], sorted(rows), dice.sample(rows, len(rows)), dice.sample(rows, len(rows))]
                for order in orders:
                    self.assertEqual(self.played(*ahead, *order, *self.ASKED), plain)
                for column in (1, 2, 3, 4, 5):
                    answers = self.played(*ahead, *rows, f"order {column}", *self.ASKED)
                    self.assertEqual(answers[len(ahead) + len(rows) + 1:], plain[len(ahead) + len(rows):])

    def test_what_cancels(self):
        for width in SOME_WIDTHS:
            for order in itertools.permutations(("row 1e18", "row 1", "row -1e18", "row -.5")):
                self.assertEqual(self.played(f"width {width}", "digits 3", *order, "sum 1", "mean 1", "middle 1")[6:],
                                 ["5.00e-1", "1.25e-1", "2.50e-1"])

    def test_what_is_written_with_digits_enough_is_read_as_the_same(self):
        dice = random.Random(112)
        for width, digits in ((8, 4), (53, 17), (64, 21), (8, 40), (53, 40), (64, 40)):
            for _ in range(30):
                text = f"{dice.choice(('', '-'))}{dice.randrange(1, 10 ** 20)}e{dice.randrange(-37, -2)}"
                ahead = [f"width {width}", f"digits {digits}", f"row {text}"]
                answer, shown, brief = self.played(*ahead, "sum 1", "show 1", f"brief {text}")[3:]
                self.assertEqual(shown, brief)
                self.check(brief, f"width {width}", f"brief {answer}")
                self.check(brief, f"width {width}", f"brief {brief}")

    def test_the_same_text_twice(self):
        text = "\n".join(["digits 9", *TABLE, "sum 1", "order 2", "fit 1 2 3", "x", "show 1", "fit 1 1 2 3", "drop 2"])
        told = play(text)
        before = list(told)
        self.assertEqual(play(text), before)
        told.append("changed")
        told[0] = "changed"
        told.clear()
        self.assertEqual(play(text), before)
        self.assertIsNot(play(text), play(text))

    def test_one_text_does_not_bear_upon_another(self):
        one = play("row 1 2\nsum 1")
        play("width 8\ndigits 1\nrow 5\nrow 6")
        self.assertEqual(play("row 1 2\nsum 1"), one)


if __name__ == "__main__":
    unittest.main()
