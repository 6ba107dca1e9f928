"""Rows of whole numbers above a common one, turned so that a column is left in one row alone."""


def turned(rows, column, leaving, below):
    """The rows, less so much of the leaving one as clears what each has in the column.

    They stood above the number below, and stand above that of the column in the
    leaving row then.
    """
    found = []
    for place, row in enumerate(rows):
        if place == leaving:
            found.append(row)
        else:
            found.append(_freed(row, column[place], rows[leaving], column[leaving], below))
    return found


def _freed(row, here, leaving, there, below):
    """A row less as much of the leaving one as makes it 0 in the column."""
    # All numbers are determinants, before and after: what is divided here leaves nothing.
    return [(one * there - other * here) // below for one, other in zip(row, leaving)]
