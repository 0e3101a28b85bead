import unittest

from brute import (
    NO_ROWS, Refusals, closed, fillings, greedy, open_at, rubbed_rows, settled_by_words, texts, texts_up_to)
from halftold.answers import Early, Filled, Late, Uneven
from halftold.errors import BadRow, NoFilling
from halftold.filling import filled, first, last, settled

# All of these have an even count of signs; the first of them are barred at their beginning, the others at their end.
BARRED_EARLY = [")(", "))", ")?", "?)))", "())(", "())?", "(?))))", "()" * 150 + ")(" + "()" * 150, ")" + "?" * 399,
                "?" * 200 + ")" * 202 + "?" * 200, ")" * 500]
BARRED_LATE = ["((", "?(", "(((?", "()((", "?(()", "((((?)", "?" * 399 + "(", "?" * 200 + "(" * 202 + "?" * 200,
               "()" * 200 + "((", "(" * 500]


def bars(row):
    """[2] word for word: whether anything that bars a filling is so of the row."""
    found = [len(row) % 2 == 1]
    for many in range(len(row) + 1):
        start, end = row[:many], row[len(row) - many:]
        found.append(start.count(")") > many - start.count(")"))
        found.append(end.count("(") > many - end.count("("))
    return any(found)


class FilledTest(Refusals, unittest.TestCase):
    def answered(self, row, kind):
        answer = filled(row)
        self.assertIs(type(answer), kind, row)
        self.assertIs(answer.shows(row), True, row)
        return answer

    def test_every_row_of_up_to_nine_signs(self):
        for row in texts_up_to("()?", 9):
            answer = filled(row)
            self.assertIn(type(answer), (Filled, Uneven, Early, Late), row)
            self.assertIs(answer.shows(row), True, row)
            self.assertEqual(type(answer) is Filled, not bars(row), row)

    def test_filled_just_where_there_is_a_filling(self):
        for row in texts_up_to("()?", 8):
            so = fillings(row)
            answer = filled(row)
            self.assertEqual(type(answer) is Filled, so != [], row)
            if so:
                self.assertIn(answer.text, so)

    def test_the_empty_row(self):
        self.assertEqual(self.answered("", Filled).text, "")

    def test_rows_that_are_closed_fill_themselves(self):
        for row in ("()", "(())", "()()", "(()())()", "()" * 400, "(" * 300 + ")" * 300):
            self.assertEqual(self.answered(row, Filled).text, row)

    def test_the_one_bar_that_is_so(self):
        self.answered("?", Uneven)
        self.answered("()?", Uneven)
        for row in (")?", "?)?)))", "?)))(?"):
            self.answered(row, Early)
        for row in ("?(", "(((?(?", "?)(((?"):
            self.answered(row, Late)

    def test_a_bar_deep_within_a_long_row(self):
        self.answered("?" * 301 + ")" * 303 + "?" * 400, Early)
        self.answered("?" * 400 + "(" * 303 + "?" * 301, Late)
        self.answered("?" * 302 + ")" * 302 + "?" * 400, Filled)
        self.answered("?" * 400 + "(" * 302 + "?" * 302, Filled)

    def test_long_rows_of_each_kind(self):
        for row in rubbed_rows(600, 1) + ["?" * 1000, "(" + "?" * 998 + ")", "(" * 400 + "?" * 400]:
            self.answered(row, Filled)
            self.answered(row + "?", Uneven)
            self.answered(")" + row + "?", Early)
            self.answered("?" + row + "(", Late)

    def test_very_long_rows(self):
        self.answered("?" * 100000, Filled)
        self.answered("?" * 100001, Uneven)
        self.answered("?" * 49999 + ")" * 50001, Early)
        self.answered("(" * 50001 + "?" * 49999, Late)

    def test_fields_are_of_plain_kinds(self):
        self.assertIs(type(filled("??").text), str)
        self.assertIs(type(filled(")?").many), int)
        self.assertIs(type(filled("?(").many), int)

    def test_each_call_tells_a_new_answer(self):
        for row in ("??", "?", ")?", "?("):
            one = filled(row)
            self.assertIsNot(one, filled(row))
        one = filled(")?")
        one.many = 99
        self.assertIs(filled(")?").shows(")?"), True)

    def test_no_rows(self):
        for value in NO_ROWS:
            self.refuses(BadRow, filled, value)

    def test_a_row_without_filling_is_not_refused(self):
        for row in BARRED_EARLY:
            self.answered(row, Early)
        for row in BARRED_LATE:
            self.answered(row, Late)


class FirstLastTest(Refusals, unittest.TestCase):
    def test_small_ones(self):
        for row, one, other in (("", "", ""), ("()", "()", "()"), ("??", "()", "()"), ("????", "(())", "()()"),
                                ("(??)", "(())", "()()"), ("??????", "((()))", "()()()"),
                                ("?(???)", "((()))", "(())()"), ("((????", "((()))", "(())()"),
                                ("????))", "((()))", "()(())")):
            self.assertEqual(first(row), one, row)
            self.assertEqual(last(row), other, row)

    def test_every_row_of_up_to_nine_signs(self):
        for row in texts_up_to("()?", 9):
            so = sorted(fillings(row), key=lambda text: [")" == sign for sign in text])
            if so:
                self.assertEqual(first(row), so[0], row)
                self.assertEqual(last(row), so[-1], row)
            else:
                self.assertRaises(NoFilling, first, row)
                self.assertRaises(NoFilling, last, row)

    def test_rows_of_many_rubbed_signs(self):
        for row in ("?" * 14, "(" + "?" * 13, "?" * 13 + ")", "???)??(???)???", "??((????))????", "?)?)????(?(????"):
            so = fillings(row)
            if so:
                self.assertEqual((first(row), last(row)), (so[0], so[-1]), row)

    def test_long_rows(self):
        for row in rubbed_rows(120, 2) + rubbed_rows(120, 3):
            self.assertEqual(first(row), greedy(row, "("), row)
            self.assertEqual(last(row), greedy(row, ")"), row)

    def test_very_long_rows(self):
        half = 30000
        self.assertEqual(first("?" * (2 * half)), "(" * half + ")" * half)
        self.assertEqual(last("?" * (2 * half)), "()" * half)
        self.assertEqual(last("(" * half + "?" * (2 * half)), "(" * half + ")" * half + "()" * (half // 2))
        for row in rubbed_rows(2000, 4):
            for text in (first(row), last(row)):
                self.assertTrue(closed(text))
                self.assertTrue(all(mark in ("?", sign) for mark, sign in zip(row, text)))

    def test_between_them_lie_all_counts_of_open_signs(self):
        for row in texts("()?", 8):
            so = fillings(row)
            for place in range(9 if so else 0):
                counts = [open_at(text, place) for text in so]
                self.assertEqual(open_at(first(row), place), max(counts))
                self.assertEqual(open_at(last(row), place), min(counts))

    def test_told_are_plain_texts(self):
        for row in ("", "()", "????"):
            for asked in (first, last, settled):
                self.assertIs(type(asked(row)), str)


class SettledTest(unittest.TestCase):
    def test_small_ones(self):
        for row, so in (("", ""), ("()", "()"), ("??", "()"), ("????", "(??)"), ("??????", "(????)"), ("(??)", "(??)"),
                        ("?)??", "()()"), ("((??", "(())"), ("(?(?", "()()"), ("???)", "(??)"), ("??(?", "()()"),
                        ("()??", "()()"), ("(???))", "(???))"), ("((???)", "((???)")):
            self.assertEqual(settled(row), so, row)

    def test_every_row_of_up_to_nine_signs(self):
        for row in texts_up_to("()?", 9):
            so = fillings(row)
            if so:
                columns = [set(signs) for signs in zip(*so)]
                told = "".join("?" if len(column) == 2 else min(column) for column in columns)
                self.assertEqual(settled(row), told, row)
            else:
                self.assertRaises(NoFilling, settled, row)

    def test_settled_stays_so_and_has_the_same_fillings(self):
        for row in texts("()?", 8):
            if fillings(row):
                told = settled(row)
                self.assertEqual(settled(told), told)
                self.assertEqual(fillings(told), fillings(row))

    def test_one_filling_becomes_it(self):
        for row in texts_up_to("()?", 8):
            so = fillings(row)
            if len(so) == 1:
                self.assertEqual(settled(row), so[0])
        self.assertEqual(settled("(" * 300 + "?" * 300), "(" * 300 + ")" * 300)
        self.assertEqual(settled("?" * 300 + ")" * 300), "(" * 300 + ")" * 300)
        self.assertEqual(settled("?)" * 300), "()" * 300)

    def test_long_rows(self):
        for row in rubbed_rows(120, 5) + rubbed_rows(120, 6):
            told = settled_by_words(row)
            self.assertEqual(settled(row), told, row)
            self.assertEqual(settled(told), told, row)

    def test_very_long_rows(self):
        many = 50000
        self.assertEqual(settled("?" * many), "(" + "?" * (many - 2) + ")")
        self.assertEqual(settled("()" * many + "??"), "()" * (many + 1))


class RefusalsTest(Refusals, unittest.TestCase):
    def test_what_is_no_row_is_a_bad_row(self):
        for asked in (first, last, settled):
            for value in NO_ROWS:
                self.refuses(BadRow, asked, value)

    def test_rows_without_filling(self):
        odd = ["?", "(", ")", "(?)", "()?", "?" * 501]
        for asked in (first, last, settled):
            for row in odd + BARRED_EARLY + BARRED_LATE:
                self.refuses(NoFilling, asked, row)

    def test_bad_row_goes_ahead_of_no_filling(self):
        for asked in (first, last, settled):
            for row in ("(x", "x", ")( ", "((\n", "?x?", "(" * 101 + "]"):
                self.refuses(BadRow, asked, row)

    def test_what_is_handed_in_stays_as_it_was(self):
        for asked in (filled, first, last, settled):
            for value in (["(", "?"], {"(": ")"}, bytearray(b"??"), {"?"}):
                kept = value.copy()
                self.refuses(BadRow, asked, value)
                self.assertEqual(value, kept)

    def test_asked_again_the_same_is_told(self):
        for row in ("????", "(??)", "?(???)"):
            for asked in (first, last, settled):
                told = asked(row)
                filled(row)
                self.assertEqual(asked(row), told)


if __name__ == "__main__":
    unittest.main()
