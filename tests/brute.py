"""The document's words written out anew and slowly, for the tests to compare with."""

import itertools


class Odd:
    """A value that refuses to be looked at: what is no row is refused without a look into it."""

    def __eq__(self, other):
        raise RuntimeError("compared")

    def __len__(self):
        raise RuntimeError("measured")

    def __iter__(self):
        raise RuntimeError("walked")

    def __repr__(self):
        raise RuntimeError("shown")

    __str__ = __repr__
    __hash__ = None


NO_ROWS = [
    None, True, False, 0, 1, -3, 10 ** 30, 1.5, float("nan"), b"", b"()", bytearray(b"()"),
    [], ["(", ")"], ["()"], ("(", ")"), (), {}, {"(": ")"}, set(), frozenset("()"), object(), str, len,
    range(2), Odd(), iter("()"),
    " ", "( )", "()\n", "\n", "()x", "x()", "[]", "{}", "<>", "0", "()()!", "(\x00)", "\u27e8\u27e9", "\uff08\uff09",
    "\ufe56", "(\u00a0)", "(\ud800)", "((\t", "??*", "()" * 500 + ".",
]


def texts(signs, length):
    return ["".join(found) for found in itertools.product(signs, repeat=length)]


def texts_up_to(signs, length):
    return [text for count in range(length + 1) for text in texts(signs, count)]


def open_at(text, place):
    return sum(1 for sign in text[:place] if sign == "(") - sum(1 for sign in text[:place] if sign == ")")


def closed(text):
    return "?" not in text and open_at(text, len(text)) == 0 and all(
        open_at(text, place) >= 0 for place in range(len(text)))


def fillings(row):
    found = []
    for choice in itertools.product("()", repeat=row.count("?")):
        rest = list(choice)
        text = "".join(rest.pop(0) if sign == "?" else sign for sign in row)
        if closed(text):
            found.append(text)
    return found


def cost(row, text, prices):
    whole = 0
    rest = list(prices)
    for mark, sign in zip(row, text):
        if mark == "?":
            whole += rest.pop(0)[0 if sign == "(" else 1]
    return whole
