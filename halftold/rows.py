"""What a row and a number are, when a row is closed, what fills it, and the partners and depths of a closed one."""

from halftold.errors import BadRow, NoFilling


def is_row(value):
    return isinstance(value, str) and all([sign in "()?" for sign in value])


def is_number(value):
    # Python counts True and False among the whole numbers, the document does not.
    return isinstance(value, int) and not isinstance(value, bool)


def check_row(row):
    # The words don't show what was handed in: it may be of any kind, also one that can't be shown.
    if not is_row(row):
        raise BadRow("a row is a text of (, ) and ?")


def running_depths(text):
    # Told of texts that may not be closed, so that being closed can be read off it.
    counts = [0]
    for sign in text:
        step = 1 if sign == "(" else -1
        counts.append(counts[-1] + step)
    return counts


def is_closed(row):
    if "?" in row:
        return False
    counts = running_depths(row)
    return counts[-1] == 0 and min(counts) == 0


def check_closed(row):
    check_row(row)
    if not is_closed(row):
        raise NoFilling("the row is not closed")


def is_filling(row, text):
    if not is_row(text) or len(text) != len(row) or not is_closed(text):
        return False
    return all([mark == "?" or mark == sign for mark, sign in zip(row, text)])


def partners(row):
    check_closed(row)
    found = [0] * len(row)
    waiting = []
    for place, sign in enumerate(row):
        if sign == "(":
            waiting.append(place)
        else:
            opener = waiting.pop()
            found[opener] = place
            found[place] = opener
    return found


def depths(row):
    check_closed(row)
    return running_depths(row)
