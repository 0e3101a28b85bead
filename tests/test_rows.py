import unittest

from brute import NO_ROWS, closed, open_at, texts_up_to
from halftold.errors import BadRow, NoFilling
from halftold.rows import depths, partners

LONG = 60000


def partner_by_words(row, place):
    """[6] told of a sign that opens: the first sign behind it with as many open behind it as were open at it."""
    for behind in range(place + 1, len(row)):
        if open_at(row, behind + 1) == open_at(row, place):
            return behind
    raise ValueError("no partner")


class ClosedRowsTest(unittest.TestCase):
    def test_the_empty_row(self):
        self.assertEqual(partners(""), [])
        self.assertEqual(depths(""), [0])

    def test_short_rows(self):
        for row, places, counts in (
            ("()", [1, 0], [0, 1, 0]),
            ("()()", [1, 0, 3, 2], [0, 1, 0, 1, 0]),
            ("(())", [3, 2, 1, 0], [0, 1, 2, 1, 0]),
            ("(()())", [5, 2, 1, 4, 3, 0], [0, 1, 2, 1, 2, 1, 0]),
            ("()(())", [1, 0, 5, 4, 3, 2], [0, 1, 0, 1, 2, 1, 0]),
        ):
            with self.subTest(row=row):
                self.assertEqual(partners(row), places)
                self.assertEqual(depths(row), counts)

    def test_every_closed_row_of_up_to_twelve_signs(self):
        for row in texts_up_to("()", 12):
            if not closed(row):
                continue
            places = partners(row)
            self.assertEqual(depths(row), [open_at(row, place) for place in range(len(row) + 1)])
            self.assertEqual(len(places), len(row))
            for place, sign in enumerate(row):
                self.assertEqual(places[places[place]], place)
                if sign == "(":
                    self.assertEqual(places[place], partner_by_words(row, place))

    def test_long_rows(self):
        nested = "(" * LONG + ")" * LONG
        self.assertEqual(partners(nested), list(range(2 * LONG - 1, -1, -1)))
        self.assertEqual(depths(nested), list(range(LONG)) + list(range(LONG, -1, -1)))
        beside = "()" * LONG
        self.assertEqual(partners(beside), [place ^ 1 for place in range(2 * LONG)])
        self.assertEqual(depths(beside), [0, 1] * LONG + [0])

    def test_depths_is_one_longer_and_ends_at_nought(self):
        for row in ("", "()", "((()))()", "()" * 300):
            with self.subTest(row=row):
                self.assertEqual(len(depths(row)), len(row) + 1)
                self.assertEqual(depths(row)[-1], 0)

    def test_lists_are_told_of_plain_whole_numbers(self):
        for told in (partners, depths):
            self.assertIs(type(told("(())")), list)
            self.assertEqual({type(number) for number in told("(())")}, {int})

    def test_each_call_tells_a_new_list(self):
        for told in (partners, depths):
            for row in ("", "()", "(()())()"):
                with self.subTest(told=told.__name__, row=row):
                    kept = list(told(row))
                    mine = told(row)
                    self.assertIsNot(mine, told(row))
                    mine.append(99)
                    mine[0] = -7
                    self.assertEqual(told(row), kept)


class RefusalsTest(unittest.TestCase):
    def test_what_is_no_row_is_a_bad_row(self):
        for told in (partners, depths):
            for value in NO_ROWS:
                with self.subTest(told=told.__name__, kind=type(value).__name__):
                    self.assertRaises(BadRow, told, value)

    def test_bad_row_goes_ahead_of_no_filling(self):
        for told in (partners, depths):
            for row in ("(x", ")x", "x", "((( ", "?x", ")(\n", "(" * 101 + "]"):
                with self.subTest(told=told.__name__, row=row):
                    self.assertRaises(BadRow, told, row)

    def test_rows_that_are_not_closed(self):
        for told in (partners, depths):
            for row in ("(", ")", "((", "))", ")(", "(()", "())", "())(", "()(", "())(()", "(" * 999, "()" * 99 + ")("):
                with self.subTest(told=told.__name__, row=row):
                    self.assertRaises(NoFilling, told, row)

    def test_rows_with_rubbed_signs_also_where_they_could_be_filled(self):
        for told in (partners, depths):
            for row in ("?", "??", "(?", "?)", "(?)", "()?", "()??", "(??)", "?" * 100, "()" * 50 + "?", "?()"):
                with self.subTest(told=told.__name__, row=row):
                    self.assertRaises(NoFilling, told, row)

    def test_every_row_of_up_to_seven_signs_is_refused_unless_closed(self):
        for told in (partners, depths):
            for row in texts_up_to("()?", 7):
                if closed(row):
                    told(row)
                else:
                    self.assertRaises(NoFilling, told, row)

    def test_what_is_refused_stays_as_it_was(self):
        for told in (partners, depths):
            for value in (["(", ")"], {"(": ")"}, bytearray(b"()"), {"("}):
                kept = value.copy()
                self.assertRaises(BadRow, told, value)
                self.assertEqual(value, kept)


if __name__ == "__main__":
    unittest.main()
