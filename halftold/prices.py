"""The cheapest filling of a row whose rubbed signs have prices, with levels that show that none costs less."""

from halftold.answers import Cheapest
from halftold.errors import BadPrices
from halftold.filling import check_fillable, opened_at_need
from halftold.rows import is_number, running_depths


def is_pair(value):
    return isinstance(value, tuple) and len(value) == 2 and is_number(value[0]) and is_number(value[1])


def check_prices(row, prices):
    if not isinstance(prices, list) or len(prices) != row.count("?") or not all([is_pair(pair) for pair in prices]):
        raise BadPrices("prices are a list of a pair of whole numbers for each rubbed sign")


def excesses_of(row, prices):
    excesses = [0] * len(row)
    rubbed = [place for place, sign in enumerate(row) if sign == "?"]
    for place, pair in zip(rubbed, prices):
        excesses[place] = pair[0] - pair[1]
    return excesses


def needed_levels(row, text, excesses):
    # No level may be less than the excess of a rubbed sign that opens there, or behind it, since levels never rise.
    # Where none opens behind, the least excess of all is a level that no sign that closes falls short of.
    need = min(excesses, default=0)
    needs = [need] * len(row)
    for place in range(len(row) - 1, -1, -1):
        if row[place] == "?" and text[place] == "(":
            need = max(need, excesses[place])
        needs[place] = need
    return needs


def levels_of(row, text, excesses):
    needs = needed_levels(row, text, excesses)
    counts = running_depths(text)
    levels = []
    for place, need in enumerate(needs):
        # Levels may fall only here, so what is needed from here on holds until they may fall again.
        if counts[place] <= 1:
            levels.append(need)
        else:
            levels.append(levels[-1])
    return levels


def cheapest(row, prices):
    check_fillable(row)
    check_prices(row, prices)
    excesses = excesses_of(row, prices)
    text = opened_at_need(row, excesses)
    return Cheapest(text, levels_of(row, text, excesses))
