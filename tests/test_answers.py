import itertools
import unittest

from brute import cost, fillings, open_at, texts, texts_up_to
from halftold import answers
from halftold.answers import Answer, Cheapest, Early, Filled, Late, Uneven

GREAT = 10 ** 60


def cheapest_by_words(row, prices, text, levels):
    """[5] word for word."""
    if text not in fillings(row) or len(levels) != len(row):
        return False
    for place in range(1, len(row)):
        if levels[place] > levels[place - 1]:
            return False
        if levels[place] < levels[place - 1] and not open_at(text, place) <= 1:
            return False
    rest = list(prices)
    for place in range(len(row)):
        if row[place] == "?":
            opening, closing = rest.pop(0)
            if text[place] == "(" and not opening - closing <= levels[place]:
                return False
            if text[place] == ")" and not opening - closing >= levels[place]:
                return False
    return True


class AnswersTest(unittest.TestCase):
    def says(self, told, answer, *asked):
        """`shows` is True or False itself."""
        self.assertIs(answer.shows(*asked), told, (vars(answer), asked))


class ClassesTest(AnswersTest):
    def test_five_classes_straight_under_answer(self):
        for name in ("Filled", "Uneven", "Early", "Late", "Cheapest"):
            with self.subTest(name=name):
                self.assertEqual(getattr(answers, name).__bases__, (Answer,))

    def test_fields_are_set_when_made(self):
        self.assertEqual(Filled("(?").text, "(?")
        self.assertEqual(Early(-4).many, -4)
        self.assertEqual(Late(GREAT).many, GREAT)
        made = Cheapest("()", [3, -GREAT])
        self.assertEqual(made.text, "()")
        self.assertEqual(made.levels, [3, -GREAT])
        self.assertIs(type(made.levels), list)
        self.assertIsInstance(Uneven(), Answer)

    def test_fields_are_set_by_their_names_as_arguments(self):
        self.assertEqual(Filled(text="()").text, "()")
        self.assertEqual(Early(many=1).many, 1)
        self.assertEqual(Late(many=2).many, 2)
        self.assertEqual(Cheapest(text="()", levels=[0, 0]).levels, [0, 0])

    def test_objects_have_their_own_fields(self):
        one, other = Filled("()"), Filled("(())")
        one.text = "??"
        self.assertEqual(other.text, "(())")
        self.assertEqual(Filled("()").text, "()")


class FilledTest(AnswersTest):
    def test_fillings(self):
        for text, row in (("", ""), ("()", "()"), ("()", "??"), ("()", "(?"), ("(())", "(??)"), ("()()", "(??)"),
                          ("()()", "????"), ("((()))", "((?)))")):
            self.says(True, Filled(text), row)

    def test_no_fillings(self):
        for text, row in (("", "??"), ("()", ""), ("()", "????"), ("()()", "??"), ("((", "??"), (")(", "??"),
                          ("(?", "(?"), ("??", "??"), ("(?)", "(?)"), ("(", "?"), ("(())", "()??"), ("()()", "((??"),
                          ("())(", "????"), ("()", ")?"), ("()", "?(")):
            self.says(False, Filled(text), row)

    def test_every_text_of_every_short_row(self):
        everything = texts_up_to("()?", 5)
        for row in everything:
            so = fillings(row)
            for text in everything if len(row) <= 3 else texts("()?", len(row)):
                self.says(text in so, Filled(text), row)

    def test_rows_of_six_signs(self):
        candidates = texts("()", 6)
        for row in texts("()?", 6):
            so = fillings(row)
            for text in candidates:
                self.says(text in so, Filled(text), row)

    def test_by_the_field_as_it_stands(self):
        answer = Filled("(())")
        self.says(False, answer, "()??")
        answer.text = "()()"
        self.says(True, answer, "()??")
        answer.text = "()"
        self.says(False, answer, "()??")

    def test_long_rows(self):
        many = 40000
        self.says(True, Filled("(" * many + ")" * many), "?" * (2 * many))
        self.says(False, Filled("(" * many + ")" * many), "?" * (2 * many - 1) + "(")


class UnevenTest(AnswersTest):
    def test_odd_counts_of_signs(self):
        for row in ("?", "(", ")", "()?", "???", "((((())", "?" * 99999):
            self.says(True, Uneven(), row)

    def test_even_counts_of_signs(self):
        for row in ("", "??", "((", ")(", "()", "????", "?" * 100000):
            self.says(False, Uneven(), row)


class EarlyLateTest(AnswersTest):
    def test_early(self):
        for row, many in ((")", 1), (")?", 1), (")))", 1), ("())", 3), ("?))", 3), ("(?)))", 5), ("())(((", 3)):
            self.says(True, Early(many), row)

    def test_not_early(self):
        for row, many in (("", 0), (")", 0), ("))", -1), (")))", -2), ("))", 3), (")", 2), ("()", 2), ("?)", 2),
                          (")?", 2), ("(", 1), ("?", 1), ("())", 2), ("())", 4), (")))", -GREAT), (")))", GREAT),
                          ("((", 1), ("", 1), ("", -1)):
            self.says(False, Early(many), row)

    def test_late(self):
        for row, many in (("(", 1), ("?(", 1), ("(((", 1), ("(()", 3), ("((?", 3), ("(((?)", 5), (")))(()", 3)):
            self.says(True, Late(many), row)

    def test_not_late(self):
        for row, many in (("", 0), ("(", 0), ("((", -1), ("(((", -2), ("((", 3), ("(", 2), ("()", 2), ("(?", 2),
                          ("?(", 2), (")", 1), ("?", 1), ("(()", 2), ("(()", 4), ("(((", -GREAT), ("(((", GREAT),
                          ("))", 1), ("", 1), ("", -1)):
            self.says(False, Late(many), row)

    def test_just_half_and_one_more_than_half(self):
        for half in (1, 2, 5, 1000):
            self.says(False, Early(2 * half), "?" * half + ")" * half)
            self.says(True, Early(2 * half + 1), "?" * half + ")" * (half + 1))
            self.says(True, Early(2 * half), "?" * (half - 1) + ")" * (half + 1))
            self.says(False, Late(2 * half), "(" * half + "?" * half)
            self.says(True, Late(2 * half + 1), "(" * (half + 1) + "?" * half)
            self.says(True, Late(2 * half), "(" * (half + 1) + "?" * (half - 1))

    def test_signs_out_of_the_count_do_not_matter(self):
        self.says(True, Early(2), "))((((")
        self.says(False, Early(2), "(()))))")
        self.says(True, Late(2), "))))((")
        self.says(False, Late(2), "((((()")

    def test_every_count_of_every_short_row(self):
        for row in texts_up_to("()?", 7):
            for many in range(-9, 10):
                inside = 0 <= many <= len(row)
                start = [row[place] for place in range(len(row)) if place < many]
                end = [row[place] for place in range(len(row)) if place >= len(row) - many]
                self.says(inside and start.count(")") > many - start.count(")"), Early(many), row)
                self.says(inside and end.count("(") > many - end.count("("), Late(many), row)

    def test_of_each_row_a_filling_or_a_bar_is_so_and_never_both(self):
        for row in texts_up_to("()?", 8):
            counts = range(len(row) + 1)
            barred = Uneven().shows(row) or any(Early(many).shows(row) or Late(many).shows(row) for many in counts)
            self.assertEqual(barred, not fillings(row), row)

    def test_by_the_field_as_it_stands(self):
        for answer, row in ((Early(1), "())"), (Late(1), "(()")):
            self.says(False, answer, row)
            answer.many = 3
            self.says(True, answer, row)
            answer.many = -1
            self.says(False, answer, row)


class CheapestTest(AnswersTest):
    def test_the_empty_row(self):
        self.says(True, Cheapest("", []), "", [])
        self.says(False, Cheapest("", [0]), "", [])
        self.says(False, Cheapest("()", []), "", [])
        self.says(False, Cheapest("()", [0, 0]), "", [])

    def test_a_row_without_rubbed_signs(self):
        self.says(True, Cheapest("()", [0, 0]), "()", [])
        self.says(True, Cheapest("()", [5, -5]), "()", [])
        self.says(False, Cheapest("()", [-5, 5]), "()", [])
        self.says(False, Cheapest("()()", [0, 0, 0, 0]), "(())", [])

    def test_texts_that_are_no_filling(self):
        prices = [(0, 0), (0, 0)]
        self.says(True, Cheapest("(())", [0] * 4), "(??)", prices)
        for text in ("", "()", "(()())", "((()", "(?))", "(??)", "(()(", "))((", "())("):
            self.says(False, Cheapest(text, [0] * 4), "(??)", prices)
            self.says(False, Cheapest(text, [0] * len(text)), "(??)", prices)
        self.says(False, Cheapest("()()", [0] * 4), "((??", prices)

    def test_levels_of_the_wrong_length(self):
        prices = [(0, 0), (0, 0)]
        for length in (0, 1, 2, 3, 5, 8):
            self.says(False, Cheapest("(())", [0] * length), "(??)", prices)

    def test_levels_that_rise(self):
        for levels in ([0, 0, 0, 1], [0, 1, 1, 1], [-2, -2, -1, -1], [1, 0, 1, 1], [0, 0, 0, GREAT]):
            self.says(False, Cheapest("()()", levels), "()()", [])

    def test_levels_fall_only_where_no_more_than_one_is_open(self):
        row = "((()))()"
        counts = [open_at(row, place) for place in range(len(row))]
        for place in range(1, len(row)):
            levels = [7] * place + [6] * (len(row) - place)
            self.says(counts[place] <= 1, Cheapest(row, levels), row, [])
        self.says(True, Cheapest(row, [9, 8, 8, 8, 8, 7, 6, -GREAT]), row, [])
        self.says(False, Cheapest(row, [9, 9, 8, 8, 8, 8, 8, 8]), row, [])

    def test_where_it_opens(self):
        for excess, so in ((-GREAT, True), (-1, True), (3, True), (4, False), (GREAT, False)):
            self.says(so, Cheapest("()", [3, 3]), "?)", [(excess, 0)])
            self.says(so, Cheapest("()", [3, 3]), "?)", [(0, -excess)])
            self.says(so, Cheapest("()", [3, 3]), "?)", [(excess - GREAT, -GREAT)])

    def test_where_it_closes(self):
        for excess, so in ((-GREAT, False), (2, False), (3, True), (4, True), (GREAT, True)):
            self.says(so, Cheapest("()", [3, 3]), "(?", [(excess, 0)])
            self.says(so, Cheapest("()", [3, 3]), "(?", [(0, -excess)])
            self.says(so, Cheapest("()", [3, 3]), "(?", [(excess - GREAT, -GREAT)])

    def test_prices_are_taken_in_turn(self):
        self.says(True, Cheapest("()()", [1] * 4), "(??)", [(5, 0), (0, 5)])
        self.says(False, Cheapest("()()", [1] * 4), "(??)", [(0, 5), (5, 0)])
        self.says(True, Cheapest("(())", [1] * 4), "(??)", [(0, 5), (5, 0)])

    def test_very_great_prices(self):
        self.says(True, Cheapest("(())", [GREAT] * 4), "????", [(GREAT, 0)] * 4)
        self.says(False, Cheapest("(())", [GREAT - 1] * 4), "????", [(GREAT, 0)] * 4)
        self.says(False, Cheapest("(())", [GREAT + 1] * 4), "????", [(GREAT, 0)] * 4)
        self.says(True, Cheapest("(())", [-GREAT] * 4), "????", [(-GREAT, 0)] * 4)

    def test_every_short_row_with_small_levels(self):
        numbers = (-1, 0, 1)
        pairs = ((0, 0), (1, 0), (-1, 0))
        for row in texts_up_to("()?", 4):
            for prices in itertools.product(pairs, repeat=row.count("?")):
                for text in fillings(row) or [row]:
                    for levels in itertools.product(numbers, repeat=len(row)):
                        so = cheapest_by_words(row, prices, text, levels)
                        self.says(so, Cheapest(text, list(levels)), row, list(prices))

    def test_what_is_so_costs_least(self):
        pairs = ((0, 0), (2, 1), (-3, -1))
        found = 0
        for prices in itertools.product(pairs, repeat=6):
            so = fillings("??????")
            least = min(cost("??????", text, prices) for text in so)
            for text in so:
                for first, second, third in ((1, 0, -2), (1, 1, 0), (0, -2, -2), (1, 0, 0), (0, 0, 0), (-2, -2, -2)):
                    levels = [first] * 2 + [second] * 2 + [third] * 2
                    if Cheapest(text, levels).shows("??????", list(prices)):
                        found += 1
                        self.assertEqual(cost("??????", text, prices), least)
        self.assertGreater(found, 100)

    def test_the_list_is_copied(self):
        levels = [0, 0]
        answer = Cheapest("()", levels)
        self.assertIsNot(answer.levels, levels)
        levels[1] = 5
        levels.append(9)
        self.assertEqual(answer.levels, [0, 0])
        self.says(True, answer, "??", [(0, 0), (0, 0)])
        answer.levels.append(4)
        self.assertEqual(levels, [0, 5, 9])

    def test_by_the_fields_as_they_stand(self):
        answer = Cheapest("()", [0, 0])
        prices = [(0, 0), (0, 0)]
        self.says(True, answer, "??", prices)
        answer.levels[1] = 1
        self.says(False, answer, "??", prices)
        answer.levels = [0, 0]
        self.says(True, answer, "??", prices)
        answer.levels.append(0)
        self.says(False, answer, "??", prices)
        answer.levels.pop()
        answer.text = ")("
        self.says(False, answer, "??", prices)
        answer.text = "()"
        self.says(True, answer, "??", prices)

    def test_a_long_row(self):
        many = 30000
        row = "?" * (2 * many)
        text = "(" * many + ")" * many
        prices = [(-GREAT, 0)] * many + [(GREAT, 0)] * many
        self.says(True, Cheapest(text, [0] * (2 * many)), row, prices)
        self.says(False, Cheapest(text, [1] * many + [0] * many), row, prices)


class HandedInTest(AnswersTest):
    def test_what_is_handed_in_stays_as_it_was(self):
        levels, prices = [1, 0, 0, -1], [(3, 4), (-5, 6)]
        answer = Cheapest("(())", levels)
        answer.shows("(??)", prices)
        self.assertEqual(levels, [1, 0, 0, -1])
        self.assertEqual(prices, [(3, 4), (-5, 6)])

    def test_asking_leaves_the_answer_as_it_was(self):
        for answer, asked in ((Filled("()"), ("??",)), (Early(1), (")?",)), (Late(1), ("?(",)), (Uneven(), ("?",)),
                              (Cheapest("()", [2, 1]), ("(?", [(4, 1)]))):
            kept = {name: list(value) if isinstance(value, list) else value for name, value in vars(answer).items()}
            told = [answer.shows(*asked) for _ in range(3)]
            self.assertEqual(vars(answer), kept)
            self.assertEqual(told, [True] * 3)

    def test_prices_are_not_kept(self):
        answer = Cheapest("()", [0, 0])
        prices = [(0, 0)]
        self.says(True, answer, "?)", prices)
        prices[0] = (1, 0)
        self.says(False, answer, "?)", prices)


if __name__ == "__main__":
    unittest.main()
