"""The document's words written out anew and slowly, for the tests to compare with."""

import itertools
import random


class Odd:
    """A value that refuses to be looked at: what is no row is refused without a look into it."""

    def __eq__(self, other):
        raise RuntimeError("compared")

    def __len__(self):
        raise RuntimeError("measured")

    def __iter__(self):
        raise RuntimeError("walked")

    def __repr__(self):
        raise RuntimeError("shown")

    __str__ = __repr__
    __hash__ = None


NO_ROWS = [
    None, True, False, 0, 1, -3, 10 ** 30, 1.5, float("nan"), b"", b"()", bytearray(b"()"),
    [], ["(", ")"], ["()"], ("(", ")"), (), {}, {"(": ")"}, set(), frozenset("()"), object(), str, len,
    range(2), Odd(), iter("()"),
    " ", "( )", "()\n", "\n", "()x", "x()", "[]", "{}", "<>", "0", "()()!", "(\x00)", "\u27e8\u27e9", "\uff08\uff09",
    "\ufe56", "(\u00a0)", "(\ud800)", "((\t", "??*", "()" * 500 + ".",
]


def texts(signs, length):
    return ["".join(found) for found in itertools.product(signs, repeat=length)]


def texts_up_to(signs, length):
    return [text for count in range(length + 1) for text in texts(signs, count)]


def open_at(text, place):
    return sum(1 for sign in text[:place] if sign == "(") - sum(1 for sign in text[:place] if sign == ")")


def closed(text):
    return "?" not in text and open_at(text, len(text)) == 0 and all(
        open_at(text, place) >= 0 for place in range(len(text)))


def fillings(row):
    found = []
    for choice in itertools.product("()", repeat=row.count("?")):
        rest = list(choice)
        text = "".join(rest.pop(0) if sign == "?" else sign for sign in row)
        if closed(text):
            found.append(text)
    return found


def cost(row, text, prices):
    whole = 0
    rest = list(prices)
    for mark, sign in zip(row, text):
        if mark == "?":
            whole += rest.pop(0)[0 if sign == "(" else 1]
    return whole


def ways_by_open(row):
    """How many beginnings there are for each count open at the end of the row: a walk from its beginning on."""
    ways = {0: 1}
    for sign in row:
        further = {}
        for count, many in ways.items():
            for step in {"(": (1,), ")": (-1,), "?": (1, -1)}[sign]:
                if count + step >= 0:
                    further[count + step] = further.get(count + step, 0) + many
        ways = further
    return ways


def count_fillings(row):
    return ways_by_open(row).get(0, 0)


def least_cost(row, prices):
    rest = list(prices)
    costs = {0: 0}
    for sign in row:
        opening, closing = rest.pop(0) if sign == "?" else (0, 0)
        further = {}
        for count, whole in costs.items():
            for step, price in ((1, opening), (-1, closing)):
                if sign != ("(" if step < 0 else ")") and count + step >= 0:
                    found = further.get(count + step)
                    if found is None or whole + price < found:
                        further[count + step] = whole + price
        costs = further
    return costs[0]


def greedy(row, sign):
    """The filling that has the sign as early as can be: each rubbed sign in turn, as far as a filling is left."""
    for place in range(len(row)):
        if row[place] == "?":
            other = ")" if sign == "(" else "("
            tried = row[:place] + sign + row[place + 1:]
            row = tried if count_fillings(tried) else row[:place] + other + row[place + 1:]
    return row


def settled_by_words(row):
    signs = list(row)
    for place in range(len(row)):
        if row[place] == "?":
            can = [sign for sign in "()" if count_fillings(row[:place] + sign + row[place + 1:])]
            signs[place] = can[0] if len(can) == 1 else "?"
    return "".join(signs)


def closed_row(chance, length):
    signs = []
    count = 0
    for left in range(length, 0, -1):
        opens = count == 0 or (count < left and chance.random() < 0.5)
        signs.append("(" if opens else ")")
        count += 1 if opens else -1
    return "".join(signs)


def rubbed_rows(length, seed):
    """Rows that have a filling, with few, some and nearly all signs rubbed out."""
    chance = random.Random(seed)
    found = []
    for share in (0.02, 0.1, 0.3, 0.6, 0.9, 1):
        row = closed_row(chance, length)
        found.append("".join("?" if chance.random() < share else sign for sign in row))
    return found


class Refusals:
    """For test cases: the class of a refusal is that one itself, none above or under it."""

    def refuses(self, refusal, asked, *values):
        with self.subTest(asked=asked.__name__, kinds=[type(value).__name__ for value in values]):
            with self.assertRaises(refusal) as caught:
                asked(*values)
            self.assertIs(type(caught.exception), refusal)
