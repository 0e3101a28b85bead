"""How many fillings a row has, which one has a given count, and which count a given one has."""

from halftold.errors import BadNumber, BadText
from halftold.filling import check_fillable
from halftold.rows import check_row, is_filling, is_number, running_depths


def ways_from(row, place, behind):
    # Ways to fill the row from a place on stand by how many are open there; those behind are for the next place.
    # No more can be open at a place than there are signs ahead of it, so the list is cut there.
    opening = behind[1:] + [0, 0]
    closing = [0] + behind
    if row[place] == "(":
        ways = opening
    elif row[place] == ")":
        ways = closing
    else:
        ways = [one + other for one, other in zip(opening, closing)]
    return ways[:place + 1]


def ways_from_each(row):
    table = [[1]]
    for place in range(len(row) - 1, -1, -1):
        table.append(ways_from(row, place, table[-1]))
    table.reverse()
    return table


def ways_at(ways, depth):
    # Deeper than the list goes nothing can be closed any more.
    return ways[depth] if depth < len(ways) else 0


def how_many(row):
    check_row(row)
    # The whole table is not made here: of a long row it is great, and only its first entry is asked for.
    ways = [1]
    for place in range(len(row) - 1, -1, -1):
        ways = ways_from(row, place, ways)
    return ways[0]


def told(row, number):
    check_fillable(row)
    if not is_number(number) or number < 0:
        raise BadNumber("a filling's count is a whole number, 0 or more")
    table = ways_from_each(row)
    if number >= table[0][0]:
        raise BadNumber("the row has no more than so many fillings")
    signs = list(row)
    depth = 0
    skipped = 0
    for place, sign in enumerate(row):
        if sign == "?":
            opening = ways_at(table[place + 1], depth + 1)
            if number - skipped < opening:
                signs[place] = "("
            else:
                signs[place] = ")"
                skipped += opening
        depth += 1 if signs[place] == "(" else -1
    return "".join(signs)


def number_of(row, text):
    check_fillable(row)
    if not is_filling(row, text):
        raise BadText("the text is no filling of the row")
    counts = running_depths(text)
    number = 0
    ways = [1]
    for place in range(len(row) - 1, -1, -1):
        # Where it closes at a rubbed sign, all that are like it so far and open there come ahead of it.
        if row[place] == "?" and text[place] == ")":
            number += ways_at(ways, counts[place] + 1)
        ways = ways_from(row, place, ways)
    return number
