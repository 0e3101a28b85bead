"""What is told of a row, each answer able to say whether it is so of a given row."""

from halftold.rows import is_filling, running_depths


def levels_fit(text, levels):
    if len(levels) != len(text):
        return False
    counts = running_depths(text)
    for place in range(1, len(text)):
        if levels[place] > levels[place - 1]:
            return False
        # At odd places at least one is always unclosed, so one is as near to none as these come.
        if levels[place] < levels[place - 1] and counts[place] > 1:
            return False
    return True


def prices_fit(row, text, levels, prices):
    rubbed = [place for place, sign in enumerate(row) if sign == "?"]
    for place, pair in zip(rubbed, prices):
        excess = pair[0] - pair[1]
        if text[place] == "(" and excess > levels[place]:
            return False
        if text[place] == ")" and excess < levels[place]:
            return False
    return True


class Answer:
    pass


class Filled(Answer):
    def __init__(self, text):
        self.text = text

    def shows(self, row):
        return is_filling(row, self.text)


class Uneven(Answer):
    def shows(self, row):
        return len(row) % 2 == 1


class Early(Answer):
    def __init__(self, many):
        self.many = many

    def shows(self, row):
        # A slice would take a count below nought, or beyond the row, for another one.
        if self.many < 0 or self.many > len(row):
            return False
        return 2 * row[:self.many].count(")") > self.many


class Late(Answer):
    def __init__(self, many):
        self.many = many

    def shows(self, row):
        if self.many < 0 or self.many > len(row):
            return False
        return 2 * row[len(row) - self.many:].count("(") > self.many


class Cheapest(Answer):
    def __init__(self, text, levels):
        self.text = text
        self.levels = list(levels)

    def shows(self, row, prices):
        if not is_filling(row, self.text) or not levels_fit(self.text, self.levels):
            return False
        return prices_fit(row, self.text, self.levels, prices)
