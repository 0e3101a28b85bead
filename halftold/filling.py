"""Whether a row has a filling, or what bars any; its first and last one, and what all of them share."""

from halftold.answers import Early, Filled, Late, Uneven
from halftold.errors import NoFilling
from halftold.rows import check_row, running_depths


def overfull(row, sign):
    # A beginning of no signs is never overfull, so 0 can say that none is.
    excess = 0
    for place, found in enumerate(row):
        excess += 1 if found == sign else -1
        if excess > 0:
            return place + 1
    return 0


def what_bars(row):
    if len(row) % 2 == 1:
        return Uneven()
    early = overfull(row, ")")
    if early > 0:
        return Early(early)
    late = overfull(row[::-1], "(")
    if late > 0:
        return Late(late)
    return None


def check_fillable(row):
    check_row(row)
    if what_bars(row) is not None:
        raise NoFilling("the row has no filling")


def opened_early(row):
    # In every filling just half of the signs open, so it is known how many of the rubbed ones do.
    missing = len(row) // 2 - row.count("(")
    return row.replace("?", "(", missing).replace("?", ")")


def put_in_turn(waiting, entry):
    # The list falls, so that the least entry stands at its end, where it is quickly taken off.
    low = 0
    high = len(waiting)
    while low < high:
        middle = (low + high) // 2
        if waiting[middle] > entry:
            low = middle + 1
        else:
            high = middle
    waiting.insert(low, entry)


def opened_at_need(row, ranks):
    # Every rubbed sign closes until one too many does: then one of those so far must open, whatever comes behind,
    # and it may as well be the least in rank. So the ranks of those that open are together as small as can be.
    signs = list(row.replace("?", ")"))
    waiting = []
    depth = 0
    for place, sign in enumerate(row):
        if sign == "?":
            put_in_turn(waiting, (ranks[place], place))
        depth += 1 if sign == "(" else -1
        if depth < 0:
            signs[waiting.pop()[1]] = "("
            depth += 2
    return "".join(signs)


def filled(row):
    check_row(row)
    bar = what_bars(row)
    if bar is None:
        return Filled(opened_early(row))
    return bar


def first(row):
    check_fillable(row)
    return opened_early(row)


def last(row):
    check_fillable(row)
    # The later a place, the less its rank: what must open then opens as late as can be.
    return opened_at_need(row, [-place for place in range(len(row))])


def settled(row):
    # At each place the first filling has most open, the last one fewest, and every second count between these
    # is some filling's too. So a sign can't close if it would lead from the highest count to below the lowest.
    highest = running_depths(first(row))
    lowest = running_depths(last(row))
    signs = list(row)
    for place, sign in enumerate(row):
        if sign == "?" and highest[place] - 1 < lowest[place + 1]:
            signs[place] = "("
        if sign == "?" and lowest[place] + 1 > highest[place + 1]:
            signs[place] = ")"
    return "".join(signs)
