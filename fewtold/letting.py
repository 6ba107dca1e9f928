"""Amounts with which all rows with so few numbers come back, or what bars all amounts.

A step is the row of the sizes of a least dependence, its dearest places with the
opposite sign; it bars amounts w if the sum of w_i times its numbers is not above 0.
Wanted are w, above 0, that no step bars. They come as prices, by the simplex method:
Of each step as much as one likes, from 0 on, is taken, so that all that is taken adds
up to at most 1 at each place; a step gains 1 less the sum of its numbers. w is 1 more
than the price of a place. Each turn takes one more step that bars w, if there is one.
If the gain has no bound then, steps, each times an amount, add up to a row nowhere
above 0, and for each w one of these bars it.

There is a row for each place, with the rest that is left of it first, and then how
the rest hangs on that of each place; the last row has the gain and the prices. All
are whole numbers above one whole number, `below`. A step is kept as the least
dependence and the lot of its dearest places. Long dependences are shortened first,
where that leaves no doubt.
"""

from fewtold.rows import lowest, whole_product
from fewtold.shares import barring_marks, dearest_lot, weights_of
from fewtold.turning import turned

# In binary figures: two such numbers can be multiplied quickly, and leave much between them.
SHORT = 64


def letting_or_barring(least, many, count):
    """Whole numbers that no step bars as amounts, and what bars all amounts; one of them is None.

    What bars all are steps, each a least dependence, the lot of its dearest places and
    a whole number above 0; times these numbers they add up to a row nowhere above 0.
    """
    if any(_lacking(marks) < 0 for marks in least):
        # Long numbers make the turns slow. Shortened ones are off by less than 1 each: so what
        # none of their steps bars, even less by 1, no step bars, and of what bars all, even
        # more by 1, the steps themselves do.
        short = [_shortened(marks) for marks in least]
        wholes, _ = _turns(short, many, count, 1)
        if wholes is not None:
            return wholes, None
        _, barring = _turns(short, many, count, -1)
        if barring is not None:
            return None, _lengthened(barring, short, least)
    return _turns(least, many, count, 0)


def _lacking(marks):
    """How many binary figures the longest of the marks has less than short ones have."""
    return SHORT - max([mark.bit_length() for mark in marks])


def _shortened(marks):
    """The marks, the longest of them just short, by as many binary figures added or cut away."""
    more = _lacking(marks)
    return [mark << more if more >= 0 else mark >> -more for mark in marks]


def _lengthened(barring, short, least):
    """The steps of what the short ones stand for, each so many times as makes it the same."""
    found = [least[short.index(marks)] for marks, _, _ in barring]
    fewest = min([_lacking(marks) for marks in found])
    return [
        (marks, lot, number << (_lacking(marks) - fewest)) for marks, (_, lot, number) in zip(found, barring)
    ]


def _turns(least, many, count, less):
    """What letting_or_barring tells, for steps of which each number is less by so much."""
    rows = [[1] + [int(place == other) for other in range(many)] for place in range(many)]
    rows.append([0] * (many + 1))
    below = 1
    # Of which step the row tells how much is taken; None for what is left of a place.
    taken = [None] * many
    entering = _next_step(rows, below, least, count, less)
    while entering is not None:
        step, column = entering
        leaving = _leaving_row(rows, column)
        if leaving is None:
            return None, _without_end(taken, step, column, below)
        rows = turned(rows, column, leaving, below)
        taken[leaving] = step
        below = column[leaving]
        entering = _next_step(rows, below, least, count, less)
    return lowest(_wholes(rows, below)), None


def _wholes(rows, below):
    """The amounts w, each times the number below."""
    return [below + price for price in rows[-1][1:]]


def _next_step(rows, below, least, count, less):
    """The next step, and what it takes of each row, and gains, below 0, in the last; None.

    The step is None if one gains by leaving more of a place.
    """
    wholes = _wholes(rows, below)
    for place, whole in enumerate(wholes):
        if whole <= 0:
            # The price is below 0 here.
            return None, [row[place + 1] for row in rows]
    marks = barring_marks(least, wholes, count, less * sum(wholes))
    if marks is None:
        return None
    lot = tuple(sorted(dearest_lot(weights_of(marks, wholes), count)))
    sizes = [(-abs(mark) if place in lot else abs(mark)) - less for place, mark in enumerate(marks)]
    column = [whole_product(row[1:], sizes) for row in rows]
    column[-1] -= below * (1 - sum(sizes))
    return (marks, lot), column


def _without_end(taken, step, column, below):
    """The steps of which one may take ever more, each with a number of times.

    As more of the last one is taken, more of the others is, too, since no row loses by
    it; and more is left of places: just by this the steps together are below 0 there.
    """
    steps = taken + [step]
    growth = [-number for number in column[:-1]] + [below]
    growing = [place for place, other in enumerate(steps) if other is not None and growth[place] > 0]
    numbers = lowest([growth[place] for place in growing])
    return [(*steps[place], number) for place, number in zip(growing, numbers)]


def _leaving_row(rows, column):
    """The row whose rest first comes to 0 as more of the step is taken; None.

    Where several do, what follows the rest decides in the same way: so the last row
    always grows in this order, no rows come again, and the turns end.
    """
    best = None
    for place in range(len(rows) - 1):
        if column[place] > 0:
            if best is None or _is_sooner(rows[place], column[place], rows[best], column[best]):
                best = place
    return best


def _is_sooner(row, by, other, other_by):
    """Whether a row divided by a number comes before another one divided by another."""
    return [number * other_by for number in row] < [number * by for number in other]
