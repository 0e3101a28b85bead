import copy
import itertools
import random
import unittest

from brute import NO_ROWS, Odd, Refusals, cost, fillings, least_cost, open_at, rubbed_rows, texts_up_to
from halftold.answers import Cheapest
from halftold.errors import BadPrices, BadRow, NoFilling
from halftold.prices import cheapest

GREAT = 10 ** 5000
BARRED = ["?", "(", ")", ")(", "((", ")?", "?(", "()?", "())?", "?(()", "?" * 301, "(" * 200]
NO_PAIRS = [
    [1, 2], [], (), (1,), (1, 2, 3), (1, True), (False, 2), (True, False), (1, "2"), ("1", 2), (None, 1), (1, None),
    (1.0, 2), (1, 2.5), ((1, 2),), ((1, 2), 3), (1, [2]), "12", "", None, True, False, 7, {1: 2}, {1, 2}, b"12", Odd(),
    (Odd(), 1), (1, Odd()), range(2), object(),
]
NO_LISTS = [None, True, False, 0, 2, "", "()", "12", b"", (), ((1, 2), (1, 2)), {}, {0: (1, 2), 1: (1, 2)}, set(),
            frozenset(), range(0), range(2), object(), list, len, Odd(), iter([(1, 2), (1, 2)]), 1.5]


def some_prices(row):
    """Several lists of prices for a row: alike, rising, falling, below nought, very great, and others."""
    many = row.count("?")
    chance = random.Random(row)
    found = [[(0, 0)] * many, [(7, 7)] * many, [(3, -2)] * many, [(-GREAT, GREAT)] * many,
             [(turn, 0) for turn in range(many)], [(0, turn) for turn in range(many)],
             [(-turn, turn * turn) for turn in range(many)], [((-1) ** turn, 0) for turn in range(many)],
             [(GREAT * (turn % 3), GREAT + turn) for turn in range(many)]]
    for most in (1, 3, 1000):
        found.append([(chance.randint(-most, most), chance.randint(-most, most)) for _ in range(many)])
    return found


class CheapestTest(Refusals, unittest.TestCase):
    def levels_by_words(self, row, prices, text, levels):
        """[5] place by place."""
        rest = list(prices)
        for place, sign in enumerate(text):
            if place > 0:
                self.assertLessEqual(levels[place], levels[place - 1])
                if levels[place] < levels[place - 1]:
                    self.assertLessEqual(open_at(text, place), 1)
            if row[place] == "?":
                opening, closing = rest.pop(0)
                if sign == "(":
                    self.assertLessEqual(opening - closing, levels[place])
                else:
                    self.assertGreaterEqual(opening - closing, levels[place])

    def answered(self, row, prices):
        kept = copy.deepcopy(prices)
        answer = cheapest(row, prices)
        self.assertEqual(prices, kept)
        self.assertIs(type(answer), Cheapest)
        self.assertIs(type(answer.text), str)
        self.assertIs(type(answer.levels), list)
        self.assertEqual(len(answer.levels), len(row))
        self.assertTrue(all(type(level) is int for level in answer.levels))
        self.assertIs(answer.shows(row, prices), True, row)
        return answer

    def test_small_ones(self):
        # In each of these one filling is cheaper than all others.
        for row, prices, text in (("??", [(5, 1), (2, 9)], "()"), ("(??)", [(5, 0), (0, 5)], "()()"),
                                  ("(??)", [(0, 5), (5, 0)], "(())"),
                                  ("????", [(9, 9), (1, 2), (0, 0), (1, 0)], "(())"),
                                  ("????", [(0, 0), (3, 0), (2, 0), (0, 0)], "()()"),
                                  ("????))", [(0, 0), (1, 0), (5, 0), (1, 0)], "(()())"),
                                  ("??????", [(0, 0), (4, 0), (3, 0), (2, 0), (-1, 0), (-99, 0)], "()()()")):
            self.assertEqual(self.answered(row, prices).text, text)

    def test_every_row_of_up_to_seven_signs(self):
        for row in texts_up_to("()?", 7):
            so = fillings(row)
            for prices in some_prices(row) if so else []:
                answer = self.answered(row, prices)
                self.assertIn(answer.text, so)
                self.assertEqual(cost(row, answer.text, prices), min(cost(row, text, prices) for text in so), row)
                self.levels_by_words(row, prices, answer.text, answer.levels)

    def test_every_small_list_of_prices(self):
        pairs = ((0, 0), (1, 0), (-1, 1))
        for row in ("??", "????", "??????", "(?????", "?????)", "(????)", "??()??", "?(??)?", "??)(??", "???)???("):
            so = fillings(row)
            for prices in itertools.product(pairs, repeat=row.count("?") if so else 0):
                if so:
                    answer = self.answered(row, list(prices))
                    self.assertEqual(cost(row, answer.text, prices), min(cost(row, text, prices) for text in so))

    def test_rows_of_many_rubbed_signs(self):
        for row in ("?" * 12, "(??????)????", "((" + "?" * 10, "??)?????????"):
            so = fillings(row)
            for prices in some_prices(row):
                answer = self.answered(row, prices)
                self.assertEqual(cost(row, answer.text, prices), min(cost(row, text, prices) for text in so))

    def test_rows_without_rubbed_signs(self):
        for row in ("()", "(())()", "()" * 200, "(" * 200 + ")" * 200):
            self.assertEqual(self.answered(row, []).text, row)

    def test_the_empty_row(self):
        answer = self.answered("", [])
        self.assertEqual((answer.text, answer.levels), ("", []))

    def test_long_rows(self):
        for row in rubbed_rows(300, 10) + rubbed_rows(500, 11) + ["?" * 600]:
            for prices in some_prices(row)[1:]:
                answer = self.answered(row, prices)
                self.assertEqual(cost(row, answer.text, prices), least_cost(row, prices))

    def test_a_very_long_row(self):
        many = 20000
        prices = [((turn * 7919) % 1009 - 500, (turn * 104729) % 997 - 500) for turn in range(many)]
        self.answered("?" * many, prices)

    def test_each_answer_has_a_list_of_its_own(self):
        for row, prices in (("", []), ("()", []), ("????", [(1, 2), (3, 4), (5, 6), (0, 0)])):
            one, other = cheapest(row, prices), cheapest(row, prices)
            self.assertIsNot(one, other)
            self.assertIsNot(one.levels, other.levels)
            kept = list(one.levels)
            one.levels.append(99)
            one.levels[0] = -GREAT
            self.assertEqual(other.levels, kept)
            self.assertEqual(cheapest(row, prices).levels, kept)

    def test_prices_are_not_kept(self):
        prices = [(5, 0), (0, 5)]
        answer = cheapest("(??)", prices)
        kept = list(answer.levels)
        prices[0] = (0, 5)
        prices[1] = (5, 0)
        prices.append((1, 1))
        self.assertEqual((answer.text, answer.levels), ("()()", kept))
        self.assertEqual(cheapest("(??)", prices[:2]).text, "(())")


class RefusalsTest(Refusals, unittest.TestCase):
    def test_what_is_no_row_is_a_bad_row(self):
        for value in NO_ROWS:
            self.refuses(BadRow, cheapest, value, [])
            self.refuses(BadRow, cheapest, value, [(0, 0), (0, 0)])

    def test_rows_without_filling(self):
        for row in BARRED:
            self.refuses(NoFilling, cheapest, row, [(0, 0)] * row.count("?"))

    def test_what_is_no_list(self):
        for row in ("", "()", "??", "(??)"):
            for value in NO_LISTS:
                self.refuses(BadPrices, cheapest, row, value)

    def test_too_few_and_too_many(self):
        for row in ("", "()", "??", "(??)", "????", "?" * 200):
            many = row.count("?")
            cheapest(row, [(0, 0)] * many)
            for wrong in (0, 1, many - 1, many + 1, 2 * many, len(row), len(row) + 1):
                if wrong >= 0 and wrong != many:
                    self.refuses(BadPrices, cheapest, row, [(0, 0)] * wrong)

    def test_what_is_no_pair(self):
        for value in NO_PAIRS:
            self.refuses(BadPrices, cheapest, "?)", [value])
            for place in range(4):
                prices = [(1, 2), (3, 4), (5, 6), (7, 8)]
                prices[place] = value
                self.refuses(BadPrices, cheapest, "????", prices)

    def test_bad_row_goes_first(self):
        for row in ("x", "(x", "?x?", ["(", ")"], None, ")( "):
            for value in (None, [], (), [(1, 2)], [None], Odd()):
                self.refuses(BadRow, cheapest, row, value)

    def test_no_filling_goes_ahead_of_bad_prices(self):
        for row in BARRED:
            for value in (None, True, (), [None], [(1, 2)] * 999, [[1, 2]], "x", Odd()):
                self.refuses(NoFilling, cheapest, row, value)

    def test_what_is_handed_in_stays_as_it_was(self):
        for value in ([(1, 2), [3, 4]], [(1, 2)], [(1, True), (0, 0)], {0: (1, 2)}, [[1, 2], [3, 4]]):
            kept = copy.deepcopy(value)
            self.refuses(BadPrices, cheapest, "??", value)
            self.refuses(NoFilling, cheapest, "?(", value)
            self.refuses(BadRow, cheapest, value, value)
            self.assertEqual(value, kept)


if __name__ == "__main__":
    unittest.main()
