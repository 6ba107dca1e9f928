"""Many readings of a short row, a few of which are wrong."""

from fewtold.checks import are_readings, check_count, check_readings, check_readings_amounts, check_row
from fewtold.errors import NotBack
from fewtold.fits import cheapest_deviations, least_told, whole_costs
from fewtold.rows import common_bottom, reduced, row_of_wholes
from fewtold.shares import are_below, dearest_pair, greatest_quotient, signed_pair, weights_of


def is_readings(value):
    """Whether a value, whatever it is, is readings."""
    return are_readings(value)


def least_rows(readings):
    """All least rows, each with 1 as its first number other than 0, by their lots."""
    check_readings(readings)
    bottoms = [common_bottom(row) for row in readings]
    return tuple(_told_row(marks, bottoms) for marks, _ in least_told(readings))


def most_told_wrong(readings):
    """The greatest k for which unlike fits never tell the same values with k wrong for each."""
    check_readings(readings)
    return (_fewest_places(readings) - 1) // 2


def most_seen(readings):
    """The greatest k for which it surely shows that values are wrong, if at most k are."""
    check_readings(readings)
    return _fewest_places(readings) - 1


def does_mend(readings, amounts, count):
    """Whether the fit whose deviations cost least is always the right one, with so many wrong."""
    check_readings_amounts(readings, amounts)
    check_count(count)
    return are_below(_dearest_pairs(_least_weights(readings, amounts), count))


def most_wrong(readings, amounts):
    """The greatest number of wrong readings that are mended."""
    check_readings_amounts(readings, amounts)
    found = _least_weights(readings, amounts)
    count = 0
    while are_below(_dearest_pairs(found, count + 1)):
        count += 1
    return count


def barring_fit(readings, amounts, count):
    """A fit that tells dearest numbers, so many, that are not less than the others; None."""
    check_readings_amounts(readings, amounts)
    check_count(count)
    costs = whole_costs(readings, amounts)
    for marks, fit in least_told(readings):
        dearest, others = dearest_pair(weights_of(marks, costs), count)
        if dearest >= others:
            return row_of_wholes(fit)
    return None


def cheapest_fit(readings, amounts, values):
    """A fit whose deviations from the values cost least."""
    check_readings_amounts(readings, amounts)
    check_row(values, len(readings))
    _, fit = cheapest_deviations(readings, amounts, values)
    return tuple(reduced(-number, fit[-1]) for number in fit[:-1])


def is_only_fit(readings, amounts, values):
    """Whether there is just one fit whose deviations from the values cost least."""
    check_readings_amounts(readings, amounts)
    check_row(values, len(readings))
    marks, _ = cheapest_deviations(readings, amounts, values)
    # Whether they are the signs of the deviations or their opposites makes no difference.
    signs = [(mark > 0) - (mark < 0) for mark in marks]
    return are_below([signed_pair(weights, signs) for weights in _least_weights(readings, amounts)])


def reading_share(readings, amounts, count):
    """The greatest cost of the dearest places of a least row by that of the others; None."""
    check_readings_amounts(readings, amounts)
    check_count(count)
    return _share(readings, amounts, count)


def reading_factor(readings, amounts, count):
    """The least number by which a cheapest fit is off, for the share t (1 + t) / (1 - t)."""
    check_readings_amounts(readings, amounts)
    check_count(count)
    found = _share(readings, amounts, count)
    if found is None or found[0] >= found[1]:
        raise NotBack()
    top, bottom = found
    return reduced(bottom + top, bottom - top)


def _told_row(marks, bottoms):
    """The row that is told where the whole rows tell marks, divided by its first number other than 0."""
    first = [place for place, mark in enumerate(marks) if mark != 0][0]
    return tuple(reduced(mark * bottoms[first], bottom * marks[first]) for mark, bottom in zip(marks, bottoms))


def _fewest_places(readings):
    """The number of places of a least row that has the fewest."""
    return min([len(marks) - marks.count(0) for marks, _ in least_told(readings)])


def _least_weights(readings, amounts):
    """The numbers of each least row times the amounts, times whole numbers."""
    costs = whole_costs(readings, amounts)
    return [weights_of(marks, costs) for marks, _ in least_told(readings)]


def _dearest_pairs(found, count):
    """For weights of least rows what the dearest places cost, and the others."""
    return [dearest_pair(weights, count) for weights in found]


def _share(readings, amounts, count):
    """The share of readings for a count; None."""
    return greatest_quotient(_dearest_pairs(_least_weights(readings, amounts), count))
