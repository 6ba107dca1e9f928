"""Sums of multiples of columns that are nearest to something, in whole numbers.

A sum is nearest exactly if what is left is at right angles to all of the columns:
so the multiples come from the products of the columns with one another and with
what the sum is to be near to. A column is told as its whole numbers, which are its own
times their common denominator, and this denominator.
"""

from fewtold.rows import common_bottom, whole_product, whole_row
from fewtold.turning import turned


def whole_columns(table):
    """For each column of a table its whole numbers and their denominator."""
    return [(whole_row(column), common_bottom(column)) for column in zip(*table)]


def multiples_with(wholes, sides):
    """For each side multiples of columns, whose sum has the told products with the columns.

    They are whole numbers, told behind the whole number above 0 that they stand above;
    a side is a list of whole numbers, one for each column. None if the columns are not
    free.
    """
    rows = [
        [whole_product(one, other) for other in wholes] + [side[place] for side in sides]
        for place, one in enumerate(wholes)
    ]
    below = 1
    for place in range(len(wholes)):
        column = [row[place] for row in rows]
        # It is 0 only for a column that is a sum of multiples of those before it, and never below 0.
        if column[place] == 0:
            return None
        rows = turned(rows, column, place, below)
        below = column[place]
    return below, [[row[at] for row in rows] for at in range(len(wholes), len(wholes) + len(sides))]


def nearest_multiples(wholes, targets):
    """For each target the multiples of columns whose sum is nearest to it; as multiples_with tells them."""
    return multiples_with(wholes, [[whole_product(one, target) for one in wholes] for target in targets])


def shares_on(columns, lot):
    """For each column off a lot its shares on it: whole numbers, and one above 0 that they stand above.

    None if the columns of the lot are not free.
    """
    others = [column for place, column in enumerate(columns) if place not in lot]
    bottoms = [columns[place][1] for place in lot]
    told = nearest_multiples([columns[place][0] for place in lot], [numbers for numbers, _ in others])
    if told is None:
        return None
    below, found = told
    # Of the columns' whole numbers that many: so of the columns themselves more, by their denominators.
    return [
        ([number * bottom for number, bottom in zip(numbers, bottoms)], below * other[1])
        for numbers, other in zip(found, others)
    ]
