"""What comes back for told signs, and for told places whatever the signs."""

from itertools import combinations

from fewtold.checks import check_count, check_lot, check_signs, check_table_amounts
from fewtold.columns import least_marks, told_row
from fewtold.rows import LESS, row_on, row_times, whole_row
from fewtold.shares import are_below, barring_on, greatest_quotient, least_weights, lot_pair, signed_pair


def is_signed_back(table, amounts, signs):
    """Whether all rows with these signs come back."""
    check_table_amounts(table, amounts)
    check_signs(signs, len(amounts))
    return are_below(_signed_pairs(least_weights(table, amounts), signs))


def signed_share(table, amounts, signs):
    """The share of signs; None if their lot is not free."""
    check_table_amounts(table, amounts)
    check_signs(signs, len(amounts))
    return greatest_quotient(_signed_pairs(least_weights(table, amounts), signs))


def signed_back(table, amounts, lot):
    """How many of the signs with just this lot come back."""
    check_table_amounts(table, amounts)
    check_lot(lot, len(amounts))
    found = least_weights(table, amounts)
    return len([signs for signs in _all_signs(lot, len(amounts)) if are_below(_signed_pairs(found, signs))])


def is_lot_back(table, amounts, lot):
    """Whether all rows with 0 outside of the lot come back."""
    check_table_amounts(table, amounts)
    check_lot(lot, len(amounts))
    return are_below(_lot_pairs(least_weights(table, amounts), lot))


def lot_share(table, amounts, lot):
    """The share of a lot; None if it is not free."""
    check_table_amounts(table, amounts)
    check_lot(lot, len(amounts))
    return greatest_quotient(_lot_pairs(least_weights(table, amounts), lot))


def lost_row(table, amounts, lot):
    """A row with 0 outside of the lot that does not come back; None."""
    check_table_amounts(table, amounts)
    check_lot(lot, len(amounts))
    marks = barring_on(least_marks(table), whole_row(amounts), lot)
    return None if marks is None else row_times(LESS, row_on(told_row(marks), lot))


def lots_back(table, amounts, count):
    """How many of the lots of just so many places come back."""
    check_table_amounts(table, amounts)
    check_count(count)
    return _many_back(least_weights(table, amounts), len(amounts), min(count, len(amounts)))


def _signed_pairs(found, signs):
    """For weights of least dependences what they gain along the signs, and what the rest costs."""
    return [signed_pair(weights, signs) for weights in found]


def _lot_pairs(found, lot):
    """For weights of least dependences what stands on the lot costs, and what elsewhere."""
    return [lot_pair(weights, lot) for weights in found]


def _all_signs(lot, many):
    """All signs of so many places with just this lot."""
    found = [[0] * many]
    for place in lot:
        found = [signs[:place] + [sign] + signs[place + 1:] for signs in found for sign in (1, -1)]
    return found


def _many_back(found, many, size):
    """How many lots of a size, of so many places, come back."""
    return len([lot for lot in combinations(range(many), size) if are_below(_lot_pairs(found, lot))])
