"""The rows that a table takes to noughts, and the least ones that they are made of."""

from fewtold.checks import check_row, check_table
from fewtold.columns import all_least
from fewtold.errors import NotDependent
from fewtold.rows import NOUGHT, is_below, is_dependence_of, lot_of, over, row_minus, row_times


def least_dependences(table):
    """All least dependences, each with 1 as its first number other than 0, by their lots."""
    check_table(table)
    return all_least(table)


def is_dependence(table, row):
    """Whether a row is a dependence of the table; noughts are none."""
    check_table(table)
    check_row(row, len(table[0]))
    return is_dependence_of(table, row)


def parts_of(table, row):
    """Multiples of least dependences, nowhere of opposite signs, whose sum is the row."""
    check_table(table)
    check_row(row, len(table[0]))
    if not is_dependence_of(table, row):
        raise NotDependent()
    parts = []
    rest = row
    # What cannot be taken away from the rest can never be later, for signs and places
    # only go: so once round is enough. Each part takes a place off the lot, and all
    # that is left within the lot then lacks the rest before: so the parts are few.
    for least in all_least(table):
        factor = _greatest_factor(rest, least)
        if factor != NOUGHT:
            part = row_times(factor, least)
            parts.append(part)
            rest = row_minus(rest, part)
    return tuple(parts)


def _greatest_factor(rest, least):
    """The factor of greatest size by which a least one can be taken away from the rest.

    Nothing of the rest turns its sign then, and one place more of it is 0. It is 0
    if no multiple can be taken away.
    """
    factors = [over(rest[place], least[place]) for place in lot_of(least)]
    low, high = factors[0], factors[0]
    for factor in factors:
        if is_below(factor, low):
            low = factor
        if is_below(high, factor):
            high = factor
    if is_below(NOUGHT, low):
        return low
    if is_below(high, NOUGHT):
        return high
    return NOUGHT
