"""The columns of a table, cleared by one another in whole numbers.

A marked column has the numbers of a column, and behind them its marks: one for
each column of the table, telling of which multiples of these it is the sum. A
basis is a list of pairs of a pivot and a marked column that is not 0 there; each
of these columns is 0 at all pivots before its own.
"""

from fewtold.rows import lowest, reduced, whole_row


def _marked_columns(table):
    """The columns of a table, each marked once with itself."""
    # A row of the table may be multiplied: the rows whose sum it makes 0 are the same.
    rows = [whole_row(row) for row in table]
    many = len(rows[0])
    columns = []
    for place in range(many):
        marks = [0] * many
        marks[place] = 1
        columns.append([numbers[place] for numbers in rows] + marks)
    return columns


def _cleared(column, basis):
    """A multiple of a marked column, less multiples of the basis, 0 at all pivots."""
    for pivot, other in basis:
        here, there = other[pivot], column[pivot]
        # Dividing at each step keeps the numbers from doubling in length each time.
        column = lowest([here * one - there * two for one, two in zip(column, other)])
    return column


def _pivot(column, height):
    """The first place of a marked column's numbers, so many, that is not 0; None."""
    for place in range(height):
        if column[place] != 0:
            return place
    return None


def _least_marks(columns, height, start, basis):
    """The marks of the least dependences on the basis and columns from start on.

    A lot is met before all that go on from it, and these before the next one: so
    the lots come in their order as tuples.
    """
    found = []
    for place in range(start, len(columns)):
        column = _cleared(columns[place], basis)
        pivot = _pivot(column, height)
        if pivot is not None:
            longer = basis + [(pivot, column)]
            found.extend(_least_marks(columns, height, place + 1, longer))
        elif column[height:].count(0) == len(columns) - len(basis) - 1:
            # The columns of the basis are free: a dependence that holds all is least.
            found.append(column[height:])
    return found


def _upright(marks):
    """Marks or their opposite, whichever has a first number above 0."""
    first = [mark for mark in marks if mark != 0][0]
    return marks if first > 0 else opposite(marks)


def opposite(marks):
    """Marks with all signs changed."""
    return [-mark for mark in marks]


def least_marks(table):
    """Each least dependence in whole numbers, the first above 0, in the order of the lots."""
    return [_upright(marks) for marks in _least_marks(_marked_columns(table), len(table), 0, [])]


def told_row(marks):
    """The row that is marks divided by the size of the first one other than 0."""
    first = [mark for mark in marks if mark != 0][0]
    return tuple(reduced(mark, abs(first)) for mark in marks)


def only_marks(table):
    """The marks of a dependence, if all others are multiples of it; None."""
    height = len(table)
    basis, found = [], None
    for marked in _marked_columns(table):
        column = _cleared(marked, basis)
        pivot = _pivot(column, height)
        if pivot is not None:
            basis.append((pivot, column))
        elif found is not None:
            return None
        else:
            found = _upright(column[height:])
    return found


def all_least(table):
    """The least dependences of a table, in the order of their lots."""
    return tuple(told_row(marks) for marks in least_marks(table))


def are_free(table, lot):
    """Whether no dependence of a table has its lot within a told one."""
    columns = _marked_columns(table)
    basis = []
    for place in lot:
        column = _cleared(columns[place], basis)
        pivot = _pivot(column, len(table))
        if pivot is None:
            return False
        basis.append((pivot, column))
    return True


def _with_sums(table, sums):
    """A table with sums as one column more, the last."""
    return tuple(row + (number,) for row, number in zip(table, sums))


def _behind(marks):
    """The row whose sums the last column is, by marks of it and the columns before."""
    return tuple(reduced(-mark, marks[-1]) for mark in marks[:-1])


def free_rows(table, sums):
    """All rows with these sums whose lots are free, in the order of their lots.

    They stand before the last column in the least dependences that hold it: of two
    such rows with one lot, or of a lot that is not free, there would be a lesser one.
    No such lot is a part of another one: so the last column leaves the order as it is.
    """
    found = least_marks(_with_sums(table, sums))
    return [_behind(marks) for marks in found if marks[-1] != 0]


def any_row(table, sums):
    """Any row with these sums; None."""
    columns = _marked_columns(_with_sums(table, sums))
    height = len(table)
    basis = []
    for marked in columns[:-1]:
        column = _cleared(marked, basis)
        pivot = _pivot(column, height)
        if pivot is not None:
            basis.append((pivot, column))
    column = _cleared(columns[-1], basis)
    if _pivot(column, height) is not None:
        return None
    return _behind(column[height:])
