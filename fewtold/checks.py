"""What arguments must be, and the errors that are raised for those that are not."""

from math import gcd

from fewtold.errors import InvalidCount, InvalidLot, InvalidRow, InvalidTable

MOST_ROWS = 6
MOST_COLUMNS = 8
MOST_COUNT = 8


def is_whole(value):
    """Whether a value is an integer other than True and False."""
    return isinstance(value, int) and not isinstance(value, bool)


def is_fraction(value):
    """Whether a value is a pair of whole numbers in lowest terms, the second above 0."""
    if not isinstance(value, tuple) or len(value) != 2:
        return False
    top, bottom = value
    if not is_whole(top) or not is_whole(bottom):
        return False
    return bottom > 0 and gcd(top, bottom) == 1


def is_row_of(value, many):
    """Whether a value is a tuple of just so many fractions."""
    if not isinstance(value, tuple) or len(value) != many:
        return False
    return all(is_fraction(number) for number in value)


def has_table_form(value):
    """Whether a value is a table."""
    if not isinstance(value, tuple) or not 1 <= len(value) <= MOST_ROWS:
        return False
    first = value[0]
    if not isinstance(first, tuple) or not 1 <= len(first) <= MOST_COLUMNS:
        return False
    many = len(first)
    return all(is_row_of(row, many) for row in value)


def check_table(table):
    """Refuse what is no table."""
    if not has_table_form(table):
        raise InvalidTable(table)


def check_row(row, many):
    """Refuse what is no row of so many fractions."""
    if not isinstance(row, tuple) or len(row) != many:
        raise InvalidRow(None)
    for index, number in enumerate(row):
        if not is_fraction(number):
            raise InvalidRow(index)


def check_lot(lot, many):
    """Refuse what is no lot of places among so many columns."""
    if not isinstance(lot, tuple):
        raise InvalidLot(None)
    before = -1
    for index, place in enumerate(lot):
        if not is_whole(place) or not before < place < many:
            raise InvalidLot(index)
        before = place


def check_count(count):
    """Refuse what is no count."""
    if not is_whole(count) or not 0 <= count <= MOST_COUNT:
        raise InvalidCount(count)
