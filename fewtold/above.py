"""Rows with no number below 0: which are the only ones, or the cheapest, with their sums."""

from fewtold.between import prices_between
from fewtold.checks import check_count, check_lot, check_many, check_places, check_table, check_table_amounts
from fewtold.columns import told_row
from fewtold.rows import NOUGHT, ONE, reduced, times
from fewtold.upward import both_ways, held_marks, low_marks, not_dear, number_below, sums_off


def is_only_above(table, count):
    """Whether each row from 0 on with at most so many numbers is the only one with its sums."""
    check_table(table)
    check_count(count)
    return low_marks(both_ways(table), count) is None


def most_above(table):
    """The greatest k, up to the number of columns, for which each such row is the only one; None."""
    check_table(table)
    fewest = min([number_below(marks) for marks in both_ways(table)], default=len(table[0]) + 1)
    return None if fewest == 0 else fewest - 1


def low_dependence(table, count):
    """A least dependence, or the opposite of one, with at most so many numbers below 0; None."""
    check_table(table)
    check_count(count)
    marks = low_marks(both_ways(table), count)
    return None if marks is None else told_row(marks)


def is_lot_above(table, lot):
    """Whether each row from 0 on with just this lot is the only one with its sums."""
    check_table(table)
    check_lot(lot, len(table[0]))
    return held_marks(table, lot) is None


def facing_row(table, lot):
    """A row whose product with each column of the lot is 0, with each other one above 0; None."""
    check_table(table)
    check_lot(lot, len(table[0]))
    if held_marks(table, lot) is not None:
        return None
    most = _most_turned(table, lot)
    places = range(len(table[0]))
    lows = [NOUGHT if place in lot else ONE for place in places]
    highs = [NOUGHT if place in lot else most for place in places]
    return prices_between(table, lows, highs)


def is_back_above(table, amounts, count):
    """Whether each row from 0 on with so few numbers costs less than all others with its sums."""
    check_table_amounts(table, amounts)
    check_count(count)
    return low_marks(not_dear(table, amounts), count) is None


def most_back_above(table, amounts):
    """The greatest k, up to the number of columns, for which each such row costs least."""
    check_table_amounts(table, amounts)
    return min([number_below(marks) for marks in not_dear(table, amounts)], default=len(amounts) + 1) - 1


def cheap_dependence(table, amounts, count):
    """A least dependence, or an opposite, with so few numbers below 0 and no cost above 0; None."""
    check_table_amounts(table, amounts)
    check_count(count)
    marks = low_marks(not_dear(table, amounts), count)
    return None if marks is None else told_row(marks)


def power_table(places, many):
    """The table of so many rows with the powers of the places, the row of ones first."""
    check_places(places)
    check_many(many)
    rows = [(ONE,) * len(places)]
    while len(rows) < many:
        rows.append(tuple(times(power, place) for power, place in zip(rows[-1], places)))
    return tuple(rows)


def _most_turned(table, lot):
    """A number such that some facing row has products from 1 up to it with the columns off the lot.

    With such limits each least dependence may come to 0: what is above 0 in it, each
    times 1, is at most what is below 0, each times this number.
    """
    most = ONE
    for marks in both_ways(table):
        below, above = sums_off(marks, lot)
        if above * most[1] > most[0] * below:
            most = reduced(above, below)
    return most
