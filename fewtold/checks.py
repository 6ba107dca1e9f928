"""What arguments must be, and the errors that are raised for those that are not."""

from math import gcd

from fewtold.errors import (
    InvalidAmounts, InvalidCount, InvalidLot, InvalidNumber, InvalidPlaces, InvalidRow, InvalidSigns, InvalidTable,
)

MOST_ROWS = 6
MOST_COLUMNS = 8
MOST_COUNT = 8


def is_whole(value):
    """Whether a value is an integer other than True and False."""
    return isinstance(value, int) and not isinstance(value, bool)


def is_fraction(value):
    """Whether a value is a pair of whole numbers in lowest terms, the second above 0."""
    if not isinstance(value, tuple) or len(value) != 2:
        return False
    top, bottom = value
    if not is_whole(top) or not is_whole(bottom):
        return False
    return bottom > 0 and gcd(top, bottom) == 1


def is_amount(value):
    """Whether a value is a fraction above 0."""
    return is_fraction(value) and value[0] > 0


def is_sign(value):
    """Whether a value is one of the whole numbers -1, 0 and 1."""
    return is_whole(value) and -1 <= value <= 1


def is_row_of(value, many):
    """Whether a value is a tuple of just so many fractions."""
    if not isinstance(value, tuple) or len(value) != many:
        return False
    return all(is_fraction(number) for number in value)


def has_table_form(value):
    """Whether a value is a table."""
    if not isinstance(value, tuple) or not 1 <= len(value) <= MOST_ROWS:
        return False
    first = value[0]
    if not isinstance(first, tuple) or not 1 <= len(first) <= MOST_COLUMNS:
        return False
    many = len(first)
    return all(is_row_of(row, many) for row in value)


def check_table(table):
    """Refuse what is no table."""
    if not has_table_form(table):
        raise InvalidTable(table)


def check_row(row, many):
    """Refuse what is no row of so many fractions."""
    if not isinstance(row, tuple) or len(row) != many:
        raise InvalidRow(None)
    for index, number in enumerate(row):
        if not is_fraction(number):
            raise InvalidRow(index)


def check_amounts(amounts, many):
    """Refuse what is no row of so many amounts."""
    if not isinstance(amounts, tuple) or len(amounts) != many:
        raise InvalidAmounts(None)
    for index, amount in enumerate(amounts):
        if not is_amount(amount):
            raise InvalidAmounts(index)


def check_table_amounts(table, amounts):
    """Refuse what is no table, then what are no amounts for it."""
    check_table(table)
    check_amounts(amounts, len(table[0]))


def check_signs(signs, many):
    """Refuse what is no row of so many signs."""
    if not isinstance(signs, tuple) or len(signs) != many:
        raise InvalidSigns(None)
    for index, sign in enumerate(signs):
        if not is_sign(sign):
            raise InvalidSigns(index)


def check_lot(lot, many):
    """Refuse what is no lot of places among so many columns."""
    if not isinstance(lot, tuple):
        raise InvalidLot(None)
    before = -1
    for index, place in enumerate(lot):
        if not is_whole(place) or not before < place < many:
            raise InvalidLot(index)
        before = place


def check_count(count):
    """Refuse what is no count."""
    if not is_whole(count) or not 0 <= count <= MOST_COUNT:
        raise InvalidCount(count)


def check_places(places):
    """Refuse what is no tuple of 1 to 8 unlike fractions."""
    if not isinstance(places, tuple) or not 1 <= len(places) <= MOST_COLUMNS:
        raise InvalidPlaces(None)
    for index, place in enumerate(places):
        if not is_fraction(place) or place in places[:index]:
            raise InvalidPlaces(index)


def check_many(many):
    """Refuse what is no number of rows."""
    if not is_whole(many) or not 1 <= many <= MOST_ROWS:
        raise InvalidNumber(many)
