"""What arguments must be, and the errors that are raised for those that are not."""

from math import gcd

from fewtold.columns import are_free
from fewtold.errors import (
    InvalidAmounts, InvalidCount, InvalidLot, InvalidNumber, InvalidPlaces, InvalidReadings, InvalidRow, InvalidSigns,
    InvalidTable,
)

MOST_ROWS = 6
MOST_COLUMNS = 8
MOST_COUNT = 8
MOST_READINGS = 8
MOST_IN_A_FIT = 4


def is_whole(value):
    """Whether a value is an integer other than True and False."""
    # A value may say of its class what it likes when isinstance asks for it.
    return type(value) is int


def is_tuple_of(value, many):
    """Whether a value is a tuple of so many things, whatever they are."""
    return type(value) is tuple and len(value) == many


def is_fraction(value):
    """Whether a value is a pair of whole numbers in lowest terms, the second above 0."""
    if not is_tuple_of(value, 2):
        return False
    top, bottom = value
    if not is_whole(top) or not is_whole(bottom):
        return False
    return bottom > 0 and gcd(top, bottom) == 1


def is_amount(value):
    """Whether a value is a fraction above 0."""
    return is_fraction(value) and value[0] > 0


def is_sign(value):
    """Whether a value is one of the whole numbers -1, 0 and 1."""
    return is_whole(value) and -1 <= value <= 1


def is_row_of(value, many):
    """Whether a value is a tuple of just so many fractions."""
    return is_tuple_of(value, many) and all(is_fraction(number) for number in value)


def are_amounts(value, many):
    """Whether a value is a tuple of just so many amounts."""
    return is_tuple_of(value, many) and all(is_amount(amount) for amount in value)


def are_signs(value, many):
    """Whether a value is a tuple of just so many signs."""
    return is_tuple_of(value, many) and all(is_sign(sign) for sign in value)


def is_lot_of(value, many):
    """Whether a value is a lot of places among so many."""
    if type(value) is not tuple or not all(is_whole(place) and 0 <= place < many for place in value):
        return False
    return all(one < other for one, other in zip(value, value[1:]))


def is_count(value):
    """Whether a value is a count."""
    return is_whole(value) and 0 <= value <= MOST_COUNT


def _are_rows(value, most, widest):
    """Whether a value is a tuple of 1 up to most rows of as many fractions each, 1 up to widest."""
    if type(value) is not tuple or not 1 <= len(value) <= most:
        return False
    first = value[0]
    if type(first) is not tuple or not 1 <= len(first) <= widest:
        return False
    many = len(first)
    return all(is_row_of(row, many) for row in value)


def has_table_form(value):
    """Whether a value is a table."""
    return _are_rows(value, MOST_ROWS, MOST_COLUMNS)


def are_readings(value):
    """Whether a value is readings."""
    if not _are_rows(value, MOST_READINGS, MOST_IN_A_FIT):
        return False
    return are_free(value, tuple(range(len(value[0]))))


def check_table(table):
    """Refuse what is no table."""
    if not has_table_form(table):
        raise InvalidTable(table)


def check_readings(readings):
    """Refuse what is no readings."""
    if not are_readings(readings):
        raise InvalidReadings(readings)


def check_row(row, many):
    """Refuse what is no row of so many fractions."""
    if not is_tuple_of(row, many):
        raise InvalidRow(None)
    for index, number in enumerate(row):
        if not is_fraction(number):
            raise InvalidRow(index)


def check_amounts(amounts, many):
    """Refuse what is no row of so many amounts."""
    if not is_tuple_of(amounts, many):
        raise InvalidAmounts(None)
    for index, amount in enumerate(amounts):
        if not is_amount(amount):
            raise InvalidAmounts(index)


def check_table_amounts(table, amounts):
    """Refuse what is no table, then what are no amounts for it."""
    check_table(table)
    check_amounts(amounts, len(table[0]))


def check_readings_amounts(readings, amounts):
    """Refuse what is no readings, then what are no amounts for its rows."""
    check_readings(readings)
    check_amounts(amounts, len(readings))


def check_signs(signs, many):
    """Refuse what is no row of so many signs."""
    if not is_tuple_of(signs, many):
        raise InvalidSigns(None)
    for index, sign in enumerate(signs):
        if not is_sign(sign):
            raise InvalidSigns(index)


def check_lot(lot, many):
    """Refuse what is no lot of places among so many columns."""
    if type(lot) is not tuple:
        raise InvalidLot(None)
    before = -1
    for index, place in enumerate(lot):
        if not is_whole(place) or not before < place < many:
            raise InvalidLot(index)
        before = place


def check_count(count):
    """Refuse what is no count."""
    if not is_count(count):
        raise InvalidCount(count)


def check_places(places):
    """Refuse what is no tuple of 1 to 8 unlike fractions."""
    if type(places) is not tuple or not 1 <= len(places) <= MOST_COLUMNS:
        raise InvalidPlaces(None)
    for index, place in enumerate(places):
        if not is_fraction(place) or place in places[:index]:
            raise InvalidPlaces(index)


def check_many(many):
    """Refuse what is no number of rows."""
    if not is_whole(many) or not 1 <= many <= MOST_ROWS:
        raise InvalidNumber(many)
