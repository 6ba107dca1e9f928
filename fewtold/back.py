"""How many numbers a row may have so that the cheapest row with its sums is always this one."""

from fewtold.checks import check_count, check_table, check_table_amounts
from fewtold.columns import least_marks, told_row
from fewtold.errors import NotBack
from fewtold.letting import letting_or_barring
from fewtold.rows import LESS, reduced, row_minus, row_of_wholes, row_on, row_times, whole_row
from fewtold.shares import (
    are_below, barring_marks, dearest_lot, dearest_pair, greatest_quotient, least_weights, weights_of,
)


def most_back(table, amounts):
    """The greatest k, up to the number of columns, that the table gives back."""
    check_table_amounts(table, amounts)
    found = least_weights(table, amounts)
    count = 0
    while count < len(table[0]) and are_below(_pairs(found, count + 1)):
        count += 1
    return count


def is_back(table, amounts, count):
    """Whether each row with at most so many numbers comes back."""
    check_table_amounts(table, amounts)
    check_count(count)
    return are_below(_pairs(least_weights(table, amounts), count))


def barring_dependence(table, amounts, count):
    """A least dependence whose dearest places, so many, do not cost less than the others; None."""
    check_table_amounts(table, amounts)
    check_count(count)
    marks = barring_marks(least_marks(table), whole_row(amounts), count)
    return None if marks is None else told_row(marks)


def share(table, amounts, count):
    """The greatest cost of the dearest places of a least dependence by that of the others; None."""
    check_table_amounts(table, amounts)
    check_count(count)
    return _share(table, amounts, count)


def factor(table, amounts, count):
    """The least number by which a cheapest row is off, for the share t (1 + t) / (1 - t)."""
    check_table_amounts(table, amounts)
    check_count(count)
    top, bottom = _share_of_back(table, amounts, count)
    return reduced(bottom + top, bottom - top)


def worst_rows(table, amounts, count):
    """Two unlike rows with the same sums that are as far off as the factor lets them be; None."""
    check_table_amounts(table, amounts)
    check_count(count)
    top, bottom = _share_of_back(table, amounts, count)
    wholes = whole_row(amounts)
    for marks in least_marks(table):
        weights = weights_of(marks, wholes)
        dearest, others = dearest_pair(weights, count)
        if dearest * bottom == top * others:
            row = told_row(marks)
            on_dearest = row_on(row, dearest_lot(weights, count))
            return (row_times(LESS, on_dearest), row_minus(row, on_dearest))
    return None


def letting_amounts(table, count):
    """Amounts with which the table gives back a count; None."""
    check_table(table)
    check_count(count)
    wholes, _ = letting_or_barring(least_marks(table), len(table[0]), count)
    return None if wholes is None else row_of_wholes(wholes)


def _pairs(found, count):
    """For weights of least dependences what the dearest places cost, and the others."""
    return [dearest_pair(weights, count) for weights in found]


def _share(table, amounts, count):
    """The share of the table for a count; None."""
    return greatest_quotient(_pairs(least_weights(table, amounts), count))


def _share_of_back(table, amounts, count):
    """The share of the table for a count that is given back."""
    found = _share(table, amounts, count)
    if found is None or found[0] >= found[1]:
        raise NotBack()
    return found
