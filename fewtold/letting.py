"""Amounts with which all rows with so few numbers come back, if there are any.

A step is the row of the sizes of a least dependence, its dearest places with the
opposite sign; it bars amounts w if the sum of w_i times its numbers is not above 0.
Wanted are w, above 0, that no step bars. They come as prices, by the simplex method:
Of each step as much as one likes, from 0 on, is taken, so that all that is taken adds
up to at most 1 at each place; a step gains 1 less the sum of its numbers. w is 1 more
than the price of a place. Each turn takes one more step that bars w, if there is one.
If the gain has no bound then, steps, each times an amount, add up to a row nowhere
above 0, and for each w one of these bars it.

There is a row for each place, with the rest that is left of it first, and then how
the rest hangs on that of each place; the last row has the gain and the prices. All
are whole numbers above one whole number, `below`.
"""

from fewtold.rows import lowest
from fewtold.shares import barring_marks, dearest_lot, weights_of


def letting_wholes(least, many, count):
    """Whole numbers above 0, one for each place, that no step bars as amounts; None."""
    rows = [[1] + [int(place == other) for other in range(many)] for place in range(many)]
    rows.append([0] * (many + 1))
    below = 1
    column = _next_column(rows, below, least, count)
    while column is not None:
        leaving = _leaving_row(rows, column)
        if leaving is None:
            return None
        rows = _turned(rows, column, leaving, below)
        below = column[leaving]
        column = _next_column(rows, below, least, count)
    return lowest(_wholes(rows, below))


def _wholes(rows, below):
    """The amounts w, each times the number below."""
    return [below + price for price in rows[-1][1:]]


def _next_column(rows, below, least, count):
    """What the next step takes of each row, and gains, below 0, in the last; None."""
    wholes = _wholes(rows, below)
    for place, whole in enumerate(wholes):
        if whole <= 0:
            # Its price is below 0: one gains by leaving more of this place.
            return [row[place + 1] for row in rows]
    marks = barring_marks(least, wholes, count)
    if marks is None:
        return None
    dearest = dearest_lot(weights_of(marks, wholes), count)
    step = [-abs(mark) if place in dearest else abs(mark) for place, mark in enumerate(marks)]
    column = [sum(number * size for number, size in zip(row[1:], step)) for row in rows]
    column[-1] -= below * (1 - sum(step))
    return column


def _leaving_row(rows, column):
    """The row whose rest first comes to 0 as more of the step is taken; None.

    Where several do, what follows the rest decides in the same way: so the last row
    always grows in this order, no rows come again, and the turns end.
    """
    best = None
    for place in range(len(rows) - 1):
        if column[place] > 0:
            if best is None or _is_sooner(rows[place], column[place], rows[best], column[best]):
                best = place
    return best


def _is_sooner(row, by, other, other_by):
    """Whether a row divided by a number comes before another one divided by another."""
    return [number * other_by for number in row] < [number * by for number in other]


def _turned(rows, column, leaving, below):
    """The rows when the step is taken, above the number of the column in the leaving row."""
    turned = []
    for place, row in enumerate(rows):
        if place == leaving:
            turned.append(row)
        else:
            turned.append(_freed(row, column[place], rows[leaving], column[leaving], below))
    return turned


def _freed(row, here, leaving, there, below):
    """A row less as much of the leaving one as makes it 0 in the column."""
    # All numbers are determinants, before and after: what is divided here leaves nothing.
    return [(one * there - other * here) // below for one, other in zip(row, leaving)]
