"""Claims that are so, each with a paper that the checker accepts."""

from fewtold.above import cheap_dependence, facing_row, low_dependence
from fewtold.back import barring_dependence, factor
from fewtold.cheapest import cheaper_dependence, row_and_prices, showing_row
from fewtold.checks import check_count, check_lot, check_signs, check_table, check_table_amounts
from fewtold.columns import least_marks, told_row
from fewtold.greedy import straying_row
from fewtold.letting import letting_or_barring
from fewtold.readings import barring_fit
from fewtold.rows import cost_of, row_of_wholes, whole_row
from fewtold.shares import barring_on
from fewtold.told import twin_rows
from fewtold.upward import held_marks


def certify_told(table, count):
    """That the table tells a count, or that it does not."""
    return _with_breaking("told", "untold", (table, count), twin_rows(table, count))


def certify_back(table, amounts, count):
    """That the table gives back a count, or that it does not."""
    barring = barring_dependence(table, amounts, count)
    return _with_breaking("back", "not back", (table, amounts, count), barring)


def certify_factor(table, amounts, count):
    """What the factor is of a table that gives back a count."""
    return ("factor", table, amounts, count, factor(table, amounts, count)), ()


def certify_amounts(table, count):
    """That with some amounts the table gives back a count, or that with none it does."""
    check_table(table)
    check_count(count)
    wholes, barring = letting_or_barring(least_marks(table), len(table[0]), count)
    if wholes is not None:
        return ("some amounts", table, count), row_of_wholes(wholes)
    return ("no amounts", table, count), tuple(
        (row_of_wholes(marks), lot, (number, 1)) for marks, lot, number in barring
    )


def certify_cost(table, amounts, sums):
    """What the least cost of sums is."""
    row, prices = row_and_prices(table, amounts, sums)
    return ("least cost", table, amounts, sums, cost_of(amounts, row)), (row, prices)


def certify_row(table, amounts, row):
    """That a row is the only cheapest one, or that it is not."""
    name, paper = _of_row(table, amounts, row, "only cheapest", "not only cheapest")
    return (name, table, amounts, row), paper


def certify_signs(table, amounts, signs):
    """That signs come back, or that they do not."""
    check_table_amounts(table, amounts)
    check_signs(signs, len(amounts))
    # Along a dependence that turns no sign the cost of the row of the signs goes by the rise.
    name, paper = _of_row(table, amounts, row_of_wholes(signs), "signs back", "signs lost")
    return (name, table, amounts, signs), paper


def certify_lot(table, amounts, lot):
    """That a lot comes back, or that it does not."""
    check_table_amounts(table, amounts)
    check_lot(lot, len(amounts))
    marks = barring_on(least_marks(table), whole_row(amounts), lot)
    return _with_breaking("lot back", "lot lost", (table, amounts, lot), _told_or_none(marks))


def certify_above(table, count):
    """That all rows from 0 on with at most a count are the only ones from 0 on, or that they are not."""
    return _with_breaking("only above", "not only above", (table, count), low_dependence(table, count))


def certify_lot_above(table, lot):
    """That all rows from 0 on of a lot are the only ones from 0 on, or that they are not."""
    facing = facing_row(table, lot)
    if facing is not None:
        return ("lot above", table, lot), facing
    return ("lot not above", table, lot), told_row(held_marks(table, lot))


def certify_back_above(table, amounts, count):
    """That all rows from 0 on with at most a count cost least from 0 on, or that they do not."""
    cheap = cheap_dependence(table, amounts, count)
    return _with_breaking("back above", "lost above", (table, amounts, count), cheap)


def certify_greedy(table, lot):
    """That greedy steps find all rows on a lot, or that they do not."""
    return _with_breaking("greedy", "strays", (table, lot), straying_row(table, lot))


def certify_mending(readings, amounts, count):
    """That so many wrong readings are mended, or that they are not."""
    barring = barring_fit(readings, amounts, count)
    return _with_breaking("mends", "does not mend", (readings, amounts, count), barring)


def _with_breaking(name, other, parts, breaking):
    """The claim of one name without a paper, or, if something breaks it, of the other name with this."""
    if breaking is None:
        return (name, *parts), ()
    return (other, *parts), breaking


def _told_or_none(marks):
    """The row that marks tell; None for None."""
    return None if marks is None else told_row(marks)


def _of_row(table, amounts, row, name, other):
    """One name and what shows that a row comes back, or the other name and a dependence that does not cost."""
    showing = showing_row(table, amounts, row)
    if showing is not None:
        return name, showing
    return other, cheaper_dependence(table, amounts, row)
