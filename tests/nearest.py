"""Greedy steps, readings and fits reckoned plainly, in numbers of Python's own, beside the program's."""

import random
from fractions import Fraction

from tests.reckoning import plain_cost
from tests.support import NIL, eliminated, numbers_of, pair, plain_sums, rank_on, row_of, table_of


def dot(one, other):
    return sum(a * b for a, b in zip(one, other))


def plain_columns(table):
    return [numbers_of(column) for column in zip(*table)]


def plain_pulls(table, left):
    return [dot(column, numbers_of(left)) for column in plain_columns(table)]


def plain_nearest(columns, target):
    """The multiples of columns whose sum is nearest to a target; None if the columns are not free."""
    normal = table_of(*[[dot(one, other) for other in columns] + [dot(one, target)] for one in columns])
    if not columns:
        return []
    lines, leading = eliminated(normal, range(len(columns) + 1))
    if leading != list(range(len(columns))):
        return None
    return [lines[k][-1] for k in range(len(columns))]


def what_is_left(columns, target, multiples):
    left = list(target)
    for column, multiple in zip(columns, multiples):
        left = [a - multiple * b for a, b in zip(left, column)]
    return left


def plain_run(table, sums, pick):
    """Greedy steps, with a pick among the columns that pull most: the columns in their order, and the row."""
    columns, target = plain_columns(table), numbers_of(sums)
    left, taken, multiples = target, [], []
    while True:
        sizes = [abs(dot(column, left)) for column in columns]
        if max(sizes) == 0:
            row = [Fraction(0)] * len(columns)
            for place, multiple in zip(taken, multiples):
                row[place] = multiple
            return taken, row_of(*row)
        taken.append(pick([place for place, size in enumerate(sizes) if size == max(sizes)]))
        chosen = [columns[place] for place in taken]
        multiples = plain_nearest(chosen, target)
        left = what_is_left(chosen, target, multiples)


def plain_greedy_share(table, lot):
    """The greatest sum of the sizes of the shares of a column off the lot; None if it is not free."""
    columns = plain_columns(table)
    chosen = [columns[place] for place in lot]
    if rank_on(table, lot) < len(lot):
        return None
    found = [Fraction(0)]
    for place, column in enumerate(columns):
        if place not in lot:
            found.append(sum(abs(share) for share in plain_nearest(chosen, column)))
    return max(found)


def row_on_lot(seed, many, lot):
    """A row that has numbers other than 0 just on a lot."""
    source = random.Random(seed)
    numbers = [0] * many
    for place in lot:
        numbers[place] = Fraction(source.choice((-5, -3, -2, -1, 1, 1, 2, 7)), source.randint(1, 3))
    return row_of(*numbers)


def random_readings(seed, many=None, width=None, tops=(-2, -1, 0, 0, 1, 2, 3), bottoms=(1, 1, 2)):
    """Readings with many equal rows, rows of noughts, and least rows with noughts."""
    source = random.Random(seed)
    width = width or source.randint(1, 4)
    many = many or source.randint(width, 8)
    while True:
        found = tuple(
            tuple(pair(Fraction(source.choice(tops), source.choice(bottoms))) for _ in range(width))
            for _ in range(many)
        )
        if rank_on(found, range(width)) == width:
            return found


def sums_for(readings):
    """Rows whose sums are 0 for just the rows that the readings tell; a row of noughts if there are none."""
    turned = tuple(zip(*readings))
    many = len(readings)
    lines, leading = eliminated(turned, range(many))
    rows = []
    for free in range(many):
        if free not in leading:
            row = [Fraction(0)] * many
            row[free] = Fraction(1)
            for line, place in zip(lines, leading):
                row[place] = -line[free]
            rows.append(row_of(*row))
    return tuple(rows) or ((NIL,) * many,)


def deviations(readings, fit, values):
    return row_of(*[a - b for a, b in zip(numbers_of(values), plain_sums(readings, fit))])


def fit_cost(readings, amounts, fit, values):
    return plain_cost(amounts, deviations(readings, fit, values))
