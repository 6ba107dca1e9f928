"""What readings tell of fits, in whole numbers.

A row of readings is told times its common denominator; an amount divided by that of
its row then makes the same cost. So what a fit tells is marks, which are whole, and
no sign of it is another one.
"""

from itertools import combinations

from fewtold.columns import only_marks
from fewtold.rows import NOUGHT, common_bottom, times, whole_product, whole_row


def told_marks(readings, fit):
    """What the whole rows of readings tell of a fit of whole numbers."""
    return [whole_product(whole_row(row), fit) for row in readings]


def whole_costs(readings, amounts):
    """The amounts for the whole rows of readings, all times one whole number."""
    return whole_row([times(amount, (1, common_bottom(row))) for row, amount in zip(readings, amounts)])


def fits_at_nought(readings, size):
    """For all so many rows that let it the one fit, up to multiples, for which they tell 0."""
    # With a row of noughts there is a row even where no rows are chosen.
    noughts = (NOUGHT,) * len(readings[0])
    found = []
    for lot in combinations(range(len(readings)), size):
        fit = only_marks((noughts,) + tuple(readings[place] for place in lot))
        if fit is not None and fit not in found:
            found.append(fit)
    return found


def least_told(readings):
    """The marks of each least row and the fit that has it told, in the order of the lots."""
    found = []
    for fit in fits_at_nought(readings, len(readings[0]) - 1):
        marks = told_marks(readings, fit)
        lot = [place for place, mark in enumerate(marks) if mark != 0]
        found.append((lot, marks, fit))
    return [(marks, fit) for _, marks, fit in sorted(found)]


def cheapest_deviations(readings, amounts, values):
    """The marks of the deviations of a fit that costs least, and the fit behind the opposite of 1.

    The values are one column more, of which the fit takes 1 away: so both are told
    times one whole number other than 0. Some fit that costs least tells as many values
    as it has numbers, at free rows (point 28 of the document).
    """
    beside = [row + (value,) for row, value in zip(readings, values)]
    costs = whole_costs(beside, amounts)
    best, least = None, None
    for fit in fits_at_nought(beside, len(readings[0])):
        if fit[-1] != 0:
            marks = told_marks(beside, fit)
            cost, below = sum(abs(mark) * whole for mark, whole in zip(marks, costs)), abs(fit[-1])
            if least is None or cost * least[1] < least[0] * below:
                best, least = (marks, fit), (cost, below)
    return best
