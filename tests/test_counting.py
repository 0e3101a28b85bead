import math
import unittest

from brute import NO_ROWS, Odd, Refusals, closed, count_fillings, fillings, rubbed_rows, texts_up_to
from halftold.counting import how_many, number_of, told
from halftold.errors import BadNumber, BadRow, BadText, NoFilling
from halftold.filling import first, last

GREAT = 10 ** 5000
BARRED = ["?", "(", ")", ")(", "((", "))", ")?", "?(", "()?", "())?", "?(()", "?" * 301, "(" * 200, "?" * 99 + "("]
NO_NUMBERS = [None, True, False, "", "0", "()", b"0", 0.0, 1.0, float("nan"), float("inf"), 1j, [], [0], (), (0,), {},
              {0: 0}, set(), object(), int, len, Odd(), range(1)]


def catalan(half):
    return math.comb(2 * half, half) // (half + 1)


def comes_first(one, other):
    """[3] word for word."""
    place = [mark != sign for mark, sign in zip(one, other)].index(True)
    return one[place] == "("


class HowManyTest(unittest.TestCase):
    def test_small_ones(self):
        for row, many in (("", 1), ("()", 1), ("??", 1), ("????", 2), ("(??)", 2), ("??????", 5), ("((??", 1),
                          ("?", 0), ("(", 0), (")(", 0), ("?(", 0), ("()?", 0)):
            self.assertEqual(how_many(row), many, row)

    def test_every_row_of_up_to_nine_signs(self):
        for row in texts_up_to("()?", 9):
            self.assertEqual(how_many(row), len(fillings(row)), row)

    def test_nought_of_rows_without_filling(self):
        for row in BARRED + ["?" * 200 + ")" * 202, "(" * 202 + "?" * 200, ")" + "?" * 599]:
            self.assertEqual(how_many(row), 0, row)
            self.assertIs(type(how_many(row)), int)

    def test_very_great_counts(self):
        for half in (10, 50, 150, 400):
            self.assertEqual(how_many("?" * (2 * half)), catalan(half))
            self.assertEqual(how_many("(" + "?" * (2 * half - 2) + ")"), catalan(half))
            self.assertEqual(how_many("?" * (2 * half - 1)), 0)
        self.assertEqual(how_many("?" * 100 + "()" + "?" * 100), count_fillings("?" * 100 + "()" + "?" * 100))

    def test_long_rows(self):
        for row in rubbed_rows(300, 7) + rubbed_rows(500, 8):
            self.assertEqual(how_many(row), count_fillings(row), row)


class ToldTest(unittest.TestCase):
    def test_the_empty_row_has_one(self):
        self.assertEqual(how_many(""), 1)
        self.assertEqual(told("", 0), "")
        self.assertEqual(number_of("", ""), 0)

    def test_rows_without_rubbed_signs_have_themselves(self):
        for row in ("()", "(())()", "()" * 200, "(" * 200 + ")" * 200):
            self.assertEqual(told(row, 0), row)
            self.assertEqual(number_of(row, row), 0)

    def test_small_ones(self):
        for number, text in enumerate(("((()))", "(()())", "(())()", "()(())", "()()()")):
            self.assertEqual(told("??????", number), text)
            self.assertEqual(number_of("??????", text), number)

    def test_every_row_of_up_to_eight_signs(self):
        for row in texts_up_to("()?", 8):
            for number, text in enumerate(fillings(row)):
                self.assertEqual(told(row, number), text, row)
                self.assertEqual(number_of(row, text), number, row)

    def test_rows_of_many_rubbed_signs(self):
        for row in ("?" * 14, "(??????(????)?", "?????)????????", "((" + "?" * 12):
            so = fillings(row)
            self.assertEqual(how_many(row), len(so))
            self.assertEqual([told(row, number) for number in range(len(so))], so)
            self.assertEqual([number_of(row, text) for text in so], list(range(len(so))))

    def test_in_order(self):
        so = [told("(?????????", number) for number in range(how_many("(?????????"))]
        for one, other in zip(so, so[1:]):
            self.assertTrue(comes_first(one, other))

    def test_very_great_counts(self):
        for row in ["?" * 600, "(" * 40 + "?" * 400] + rubbed_rows(400, 9):
            many = how_many(row)
            self.assertEqual(told(row, 0), first(row))
            self.assertEqual(told(row, many - 1), last(row))
            self.assertEqual(number_of(row, first(row)), 0)
            self.assertEqual(number_of(row, last(row)), many - 1)
            between = sorted({many // 7, many // 3, many // 2, 5 * many // 6, max(many - 2, 0)})
            so = [told(row, number) for number in between]
            self.assertEqual([number_of(row, text) for text in so], between)
            for text in so:
                self.assertTrue(closed(text))
                self.assertTrue(all(mark in ("?", sign) for mark, sign in zip(row, text)))
            for one, other in zip(so, so[1:]):
                self.assertTrue(comes_first(one, other))

    def test_counts_of_whole_groups(self):
        # Those that open at the second place too come ahead of those that close there.
        half = 200
        closing = catalan(half - 1)
        row = "?" * (2 * half)
        boundary = catalan(half) - closing
        self.assertEqual(told(row, boundary), "()" + "(" * (half - 1) + ")" * (half - 1))
        self.assertEqual(told(row, boundary - 1), "(())" + "()" * (half - 2))

    def test_kinds(self):
        self.assertIs(type(told("????", 1)), str)
        self.assertIs(type(number_of("????", "(())")), int)


class RefusalsTest(Refusals, unittest.TestCase):
    def test_what_is_no_row_is_a_bad_row(self):
        for value in NO_ROWS:
            self.refuses(BadRow, how_many, value)
            self.refuses(BadRow, told, value, 0)
            self.refuses(BadRow, number_of, value, "()")
            self.refuses(BadRow, number_of, value, value)

    def test_rows_without_filling(self):
        for row in BARRED:
            self.refuses(NoFilling, told, row, 0)
            self.refuses(NoFilling, number_of, row, "()")
            self.refuses(NoFilling, number_of, row, row)

    def test_numbers_that_count_no_filling(self):
        for row, many in (("", 1), ("()", 1), ("????", 2), ("??????", 5), ("?" * 200, catalan(100))):
            told(row, many - 1)
            for number in [-1, -2, -many, -GREAT, many, many + 1, 2 * many, GREAT]:
                self.refuses(BadNumber, told, row, number)

    def test_what_is_no_number(self):
        for row in ("", "()", "????"):
            for value in NO_NUMBERS:
                self.refuses(BadNumber, told, row, value)

    def test_texts_that_are_no_filling(self):
        for row, wrong in (
            ("", ["()", "?", "(", " "]),
            ("()", ["", "(", ")", ")(", "((", "??", "(?", "()()", "(()"]),
            ("????", ["", "()", "(()", "(())()", "((((", "(()(", "())(", "))((", "????", "(??)", "(()?"]),
            ("????", ["(())x", "[[]]", "(())\n", "    "]),
            ("(??)()", ["((()))", "()(())", "(())", "(()))(", "(())??", "(??)()", "()()()()", " (())()"]),
            ("?" * 200, ["()" * 99, "()" * 101, "(" * 200, "?" * 200, "()" * 99 + "??", ")(" * 100]),
        ):
            for text in wrong:
                self.refuses(BadText, number_of, row, text)

    def test_every_text_of_every_short_row(self):
        everything = texts_up_to("()?", 4)
        for row in everything:
            so = fillings(row)
            for text in everything if so else []:
                if text in so:
                    self.assertEqual(number_of(row, text), so.index(text))
                else:
                    self.assertRaises(BadText, number_of, row, text)

    def test_what_is_no_text(self):
        for row in ("", "()", "????"):
            for value in NO_ROWS:
                self.refuses(BadText, number_of, row, value)

    def test_bad_row_goes_first(self):
        for row in ("x", "(x", "?x?", ["(", ")"], None, ")( "):
            for value in (-1, True, None, "", GREAT, Odd()):
                self.refuses(BadRow, told, row, value)
                self.refuses(BadRow, number_of, row, value)

    def test_no_filling_goes_ahead_of_the_third(self):
        for row in BARRED:
            for value in (-1, True, None, "", "x", [], GREAT, Odd()):
                self.refuses(NoFilling, told, row, value)
                self.refuses(NoFilling, number_of, row, value)

    def test_what_is_handed_in_stays_as_it_was(self):
        for value in (["(", ")"], {"(": 1}, bytearray(b"()"), {0}):
            kept = value.copy()
            self.refuses(BadRow, how_many, value)
            self.refuses(BadRow, told, value, 0)
            self.refuses(BadNumber, told, "??", value)
            self.refuses(BadText, number_of, "??", value)
            self.assertEqual(value, kept)

    def test_asked_again_the_same_is_told(self):
        for row in ("??????", "(?????"):
            before = [how_many(row), told(row, 1), number_of(row, last(row))]
            self.refuses(BadNumber, told, row, -1)
            self.assertEqual([how_many(row), told(row, 1), number_of(row, last(row))], before)


if __name__ == "__main__":
    unittest.main()
