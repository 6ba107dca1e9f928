"""The columns of a table, cleared by one another in whole numbers.

A marked column has the numbers of a column, and behind them its marks: one for
each column of the table, telling of which multiples of these it is the sum. A
basis is a list of pairs of a pivot and a marked column that is not 0 there; each
of these columns is 0 at all pivots before its own.
"""

from math import gcd, lcm

from fewtold.rows import reduced


def _whole_row(row):
    """The numbers of a row times their least common denominator."""
    common = 1
    for number in row:
        common = lcm(common, number[1])
    return [number[0] * (common // number[1]) for number in row]


def _marked_columns(table):
    """The columns of a table, each marked once with itself."""
    # A row of the table may be multiplied: the rows whose sum it makes 0 are the same.
    rows = [_whole_row(row) for row in table]
    many = len(rows[0])
    columns = []
    for place in range(many):
        marks = [0] * many
        marks[place] = 1
        columns.append([numbers[place] for numbers in rows] + marks)
    return columns


def _lowest(numbers):
    """Whole numbers, not all 0, divided by what divides all of them."""
    common = 0
    for number in numbers:
        common = gcd(common, number)
    return [number // common for number in numbers]


def _cleared(column, basis):
    """A multiple of a marked column, less multiples of the basis, 0 at all pivots."""
    for pivot, other in basis:
        here, there = other[pivot], column[pivot]
        # Dividing at each step keeps the numbers from doubling in length each time.
        column = _lowest([here * one - there * two for one, two in zip(column, other)])
    return column


def _pivot(column, height):
    """The first place of a marked column's numbers, so many, that is not 0; None."""
    for place in range(height):
        if column[place] != 0:
            return place
    return None


def _least_marks(columns, height, start, basis):
    """The marks of the least dependences on the basis and columns from start on.

    A lot is met before all that go on from it, and these before the next one: so
    the lots come in their order as tuples.
    """
    found = []
    for place in range(start, len(columns)):
        column = _cleared(columns[place], basis)
        pivot = _pivot(column, height)
        if pivot is not None:
            longer = basis + [(pivot, column)]
            found.extend(_least_marks(columns, height, place + 1, longer))
        elif column[height:].count(0) == len(columns) - len(basis) - 1:
            # The columns of the basis are free: a dependence that holds all is least.
            found.append(column[height:])
    return found


def _told_row(marks):
    """The multiple of marks, as a row, of which the first number other than 0 is 1."""
    first = [mark for mark in marks if mark != 0][0]
    return tuple(reduced(mark, first) for mark in marks)


def all_least(table):
    """The least dependences of a table, in the order of their lots."""
    found = _least_marks(_marked_columns(table), len(table), 0, [])
    return tuple(_told_row(marks) for marks in found)


def are_free(table, lot):
    """Whether no dependence of a table has its lot within a told one."""
    columns = _marked_columns(table)
    basis = []
    for place in lot:
        column = _cleared(columns[place], basis)
        pivot = _pivot(column, len(table))
        if pivot is None:
            return False
        basis.append((pivot, column))
    return True
