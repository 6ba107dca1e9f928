"""How many numbers a row may have so that its sums tell it."""

from fewtold.checks import check_count, check_table
from fewtold.columns import all_least
from fewtold.rows import LESS, lot_of, row_on, row_times


def most_told(table):
    """The greatest k, up to the number of columns, that the table tells."""
    check_table(table)
    shortest = _shortest_dependence(table)
    if shortest is None:
        return len(table[0])
    return (len(lot_of(shortest)) - 1) // 2


def is_told(table, count):
    """Whether all unlike rows with at most so many numbers have unlike sums."""
    check_table(table)
    check_count(count)
    return _parted_dependence(table, count) is None


def twin_rows(table, count):
    """Two unlike rows with at most so many numbers and the same sums; None."""
    check_table(table)
    check_count(count)
    parted = _parted_dependence(table, count)
    if parted is None:
        return None
    lot = lot_of(parted)
    return (row_on(parted, lot[:count]), row_times(LESS, row_on(parted, lot[count:])))


def _shortest_dependence(table):
    """A least dependence with the fewest places; None."""
    return min(all_least(table), key=lambda row: len(lot_of(row)), default=None)


def _parted_dependence(table, count):
    """A least dependence that is the difference of two rows of so many numbers; None."""
    shortest = _shortest_dependence(table)
    if shortest is None or len(lot_of(shortest)) > 2 * count:
        return None
    return shortest
