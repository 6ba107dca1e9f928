"""Steps that take the column that pulls most, and the rows that they always find."""

from itertools import combinations

from fewtold.checks import check_lot, check_row, check_table
from fewtold.errors import NotFree
from fewtold.nearest import multiples_with, nearest_multiples, shares_on, whole_columns
from fewtold.rows import NOUGHT, common_bottom, lowest, products_of, reduced, row_of_wholes, whole_product, whole_row
from fewtold.shares import are_below, greatest_quotient


def pulls(table, left):
    """The products of what is left with each column."""
    check_table(table)
    check_row(left, len(table))
    return products_of(table, left)


def greedy_run(table, sums):
    """The lot of the columns that are taken, and the row of their multiples behind the last step."""
    check_table(table)
    check_row(sums, len(table))
    columns = whole_columns(table)
    target = whole_row(sums)
    lot, below, multiples = [], 1, []
    strongest = _strongest(columns, target)
    while strongest is not None:
        lot = sorted(lot + [strongest])
        taken = [columns[place][0] for place in lot]
        below, found = nearest_multiples(taken, [target])
        multiples = found[0]
        strongest = _strongest(columns, _what_is_left(target, below, taken, multiples))
    row = [NOUGHT] * len(columns)
    for place, multiple in zip(lot, multiples):
        row[place] = reduced(multiple * columns[place][1], below * common_bottom(sums))
    return (tuple(lot), tuple(row))


def greedy_share(table, lot):
    """The greatest sum of the sizes of the shares of a column off the lot."""
    return greatest_quotient(_pairs(_shares_on_free(table, lot)))


def is_greedy(table, lot):
    """Whether greedy steps for rows on the lot take columns of the lot alone."""
    return are_below(_pairs(_shares_on_free(table, lot)))


def straying_row(table, lot):
    """A row on the lot for whose sums a column off it pulls as much as each of the lot; None."""
    for shares in _shares_on_free(table, lot):
        size, below = _pair(shares)
        if size >= below:
            return _pulled_row(whole_columns(table), lot, shares[0])
    return None


def most_greedy(table):
    """The greatest k for which greedy steps find all rows with at most k numbers."""
    check_table(table)
    columns = whole_columns(table)
    count = 0
    while count < len(columns) and _are_all_greedy(columns, count + 1):
        count += 1
    return count


def _strongest(columns, left):
    """The first of the columns whose pulls are greatest in size; None if no pull is other than 0."""
    best, most = None, NOUGHT
    for place, (numbers, bottom) in enumerate(columns):
        size = abs(whole_product(numbers, left))
        if size * most[1] > most[0] * bottom:
            best, most = place, (size, bottom)
    return best


def _what_is_left(target, below, taken, multiples):
    """The target less the multiples, above a number, of the columns taken; all times this number."""
    left = [number * below for number in target]
    for numbers, multiple in zip(taken, multiples):
        left = [one - multiple * other for one, other in zip(left, numbers)]
    return left


def _shares_on_free(table, lot):
    """The shares of each column off the lot, the columns of which must be free."""
    check_table(table)
    check_lot(lot, len(table[0]))
    found = shares_on(whole_columns(table), lot)
    if found is None:
        raise NotFree()
    return found


def _pair(shares):
    """The sizes of the shares of a column together, and what they stand above."""
    numbers, below = shares
    return (sum(abs(number) for number in numbers), below)


def _pairs(found):
    """For the shares of some columns the pairs of their sizes and what these stand above."""
    return [_pair(shares) for shares in found]


def _pulled_row(columns, lot, numbers):
    """A row on a lot whose columns are pulled by 1, by the signs of the numbers, or not at all."""
    signed = [((number > 0) - (number < 0)) * columns[place][1] for place, number in zip(lot, numbers)]
    _, found = multiples_with([columns[place][0] for place in lot], [signed])
    wholes = [0] * len(columns)
    for place, multiple in zip(lot, found[0]):
        wholes[place] = multiple * columns[place][1]
    return row_of_wholes(lowest(wholes))


def _are_all_greedy(columns, size):
    """Whether all lots of so many places are free, with shares that come to less than 1."""
    for lot in combinations(range(len(columns)), size):
        found = shares_on(columns, lot)
        if found is None or not are_below(_pairs(found)):
            return False
    return True
