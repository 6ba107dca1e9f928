"""Rows of prices: the products of which with the columns keep within limits.

The products with the columns, in one row, are just the rows whose product with each
dependence is 0. One of these keeps within limits exactly if for each least
dependence some numbers within the limits have a product of 0 with it (Rockafellar).
So the products may be settled place by place, each one such that this still holds.
"""

from fewtold.columns import any_row, least_marks, opposite
from fewtold.rows import common_bottom, reduced


def prices_between(table, lows, highs):
    """A row y for which A'y is from lows on and up to highs at each place; there must be one."""
    common = common_bottom(lows + highs)
    whole_lows = [top * (common // bottom) for top, bottom in lows]
    whole_highs = [top * (common // bottom) for top, bottom in highs]
    products = _settled(least_marks(table), whole_lows, whole_highs, common)
    # Each column of the table is a row of sums for y, which has one number for each row.
    return any_row(tuple(zip(*table)), products)


def _settled(least, whole_lows, whole_highs, common):
    """Numbers within the limits whose product with each least dependence is 0.

    The limits are whole numbers above a common one.
    """
    many = len(whole_lows)
    lows, highs = whole_lows, whole_highs
    for place in range(many):
        low, high = _range_at(least, place, lows, highs)
        top, bottom = _nearest_to_nought(low, high)
        common *= bottom
        lows = _with_settled(lows, bottom, place, top)
        highs = _with_settled(highs, bottom, place, top)
    return [reduced(number, common) for number in lows]


def _with_settled(limits, bottom, place, top):
    """All limits times a number, but at a place what is settled there."""
    return [top if other == place else limit * bottom for other, limit in enumerate(limits)]


def _range_at(least, place, lows, highs):
    """The least and the greatest number at a place which leave some for all other places."""
    low, high = (lows[place], 1), (highs[place], 1)
    for marks in least:
        if marks[place] != 0:
            upright = marks if marks[place] > 0 else opposite(marks)
            rest_low, rest_high = _range_of_rest(upright, place, lows, highs)
            if -rest_high * low[1] > low[0] * upright[place]:
                low = (-rest_high, upright[place])
            if -rest_low * high[1] < high[0] * upright[place]:
                high = (-rest_low, upright[place])
    return low, high


def _range_of_rest(marks, place, lows, highs):
    """The least and the greatest product of marks, without a place, with numbers in the limits."""
    rest_low, rest_high = 0, 0
    for other, mark in enumerate(marks):
        if other != place:
            rest_low += mark * (lows[other] if mark > 0 else highs[other])
            rest_high += mark * (highs[other] if mark > 0 else lows[other])
    return rest_low, rest_high


def _nearest_to_nought(low, high):
    """The number of least size from a low one up to a high one, in lowest terms."""
    if low[0] > 0:
        return reduced(low[0], low[1])
    if high[0] < 0:
        return reduced(high[0], high[1])
    return (0, 1)
