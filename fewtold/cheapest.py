"""Rows that no other row with the same sums undercuts, and what shows it."""

from fewtold.between import prices_between
from fewtold.checks import check_row, check_table_amounts
from fewtold.columns import free_rows, least_marks, opposite
from fewtold.errors import NoRow
from fewtold.rows import (
    LESS, ONE, cost_of, is_below, lot_of, over, row_of_wholes, row_times, signs_of, times, whole_row,
)
from fewtold.shares import are_below, greatest_quotient, least_weights, signed_pair, signed_sum, weights_of


def least_cost(table, amounts, sums):
    """What the cheapest rows with these sums cost."""
    check_table_amounts(table, amounts)
    check_row(sums, len(table))
    return cost_of(amounts, _corners(table, amounts, sums)[0])


def cheapest_row(table, amounts, sums):
    """A cheapest row with these sums whose lot is free."""
    check_table_amounts(table, amounts)
    check_row(sums, len(table))
    return _corners(table, amounts, sums)[0]


def cheapest_corners(table, amounts, sums):
    """All cheapest rows with these sums whose lots are free, in the order of their lots."""
    check_table_amounts(table, amounts)
    check_row(sums, len(table))
    return tuple(_corners(table, amounts, sums))


def price_row(table, amounts, sums):
    """A row whose product with these sums is the least cost, with no column more than its amount."""
    _, prices = row_and_prices(table, amounts, sums)
    return prices


def row_and_prices(table, amounts, sums):
    """A cheapest row with these sums whose lot is free, and a price row of the sums."""
    check_table_amounts(table, amounts)
    check_row(sums, len(table))
    row = _corners(table, amounts, sums)[0]
    return row, _prices(table, amounts, signs_of(row), ONE)


def is_cheapest(table, amounts, row):
    """Whether no row with the same sums costs less."""
    check_table_amounts(table, amounts)
    check_row(row, len(amounts))
    return all(one <= other for one, other in _pairs(table, amounts, signs_of(row)))


def is_only_cheapest(table, amounts, row):
    """Whether each other row with the same sums costs more."""
    check_table_amounts(table, amounts)
    check_row(row, len(amounts))
    return are_below(_pairs(table, amounts, signs_of(row)))


def showing_row(table, amounts, row):
    """A row that shows that a row comes back; None."""
    check_table_amounts(table, amounts)
    check_row(row, len(amounts))
    signs = signs_of(row)
    part = greatest_quotient(_pairs(table, amounts, signs))
    if part is None or part[0] >= part[1]:
        return None
    return _prices(table, amounts, signs, part)


def cheaper_dependence(table, amounts, row):
    """A dependence along which a row does not cost more, but less if that can be; None."""
    check_table_amounts(table, amounts)
    check_row(row, len(amounts))
    signs = signs_of(row)
    wholes = whole_row(amounts)
    level = None
    # Where no sign turns, the cost goes by the rise alone.
    for marks in least_marks(table):
        weights = weights_of(marks, wholes)
        gained, elsewhere = signed_pair(weights, signs)
        if gained >= elsewhere:
            downward = opposite(marks) if signed_sum(weights, signs) > 0 else marks
            if gained > elsewhere:
                return _within(downward, row)
            level = downward
    return None if level is None else _within(level, row)


def _corners(table, amounts, sums):
    """The cheapest rows with these sums whose lots are free, one at least, by their lots."""
    rows = free_rows(table, sums)
    if not rows:
        raise NoRow()
    # Some cheapest row has a free lot: so the cheapest of these are cheapest of all.
    best, least = [], None
    for row in rows:
        cost = cost_of(amounts, row)
        if least is None or is_below(cost, least):
            best, least = [], cost
        if cost == least:
            best.append(row)
    return best


def _pairs(table, amounts, signs):
    """For each least dependence what its numbers gain along the signs, and what the others cost."""
    return [signed_pair(weights, signs) for weights in least_weights(table, amounts)]


def _prices(table, amounts, signs, part):
    """A row y with A'y the amount times the sign, and up to a part of the amount where this is 0."""
    lows, highs = [], []
    for sign, amount in zip(signs, amounts):
        if sign == 0:
            highs.append(times(part, amount))
            lows.append(times(LESS, highs[-1]))
        else:
            highs.append(times((sign, 1), amount))
            lows.append(highs[-1])
    return prices_between(table, lows, highs)


def _within(marks, row):
    """The greatest multiple of marks, as a row, that added to a row turns no sign of it."""
    waning = [place for place in lot_of(row) if marks[place] * row[place][0] < 0]
    factors = [over(row[place], (-marks[place], 1)) for place in waning]
    first = factors[0]
    for factor in factors:
        if is_below(factor, first):
            first = factor
    return row_times(first, row_of_wholes(marks))
