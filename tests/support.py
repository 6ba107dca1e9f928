"""What the tests share: tables, wrong values, and a plain reckoning beside the program's."""

import random
from fractions import Fraction
from itertools import combinations

NIL, HALF, ONE, TWO, THREE, LESS = (0, 1), (1, 2), (1, 1), (2, 1), (3, 1), (-1, 1)
WIDE = ((ONE, NIL, ONE, ONE), (NIL, ONE, ONE, LESS))
STEPS = ((ONE, ONE, ONE, ONE), (NIL, ONE, TWO, THREE), (NIL, ONE, (4, 1), (9, 1)))
LONG = 10 ** 399


def pair(number):
    number = Fraction(number)
    return (number.numerator, number.denominator)


def row_of(*numbers):
    return tuple(pair(number) for number in numbers)


def table_of(*rows):
    return tuple(row_of(*row) for row in rows)


def numbers_of(row):
    return [Fraction(*number) for number in row]


def same(one, other):
    """Equal, and of the same kinds throughout: True is not 1, a list no tuple."""
    if type(one) is not type(other):
        return False
    if isinstance(one, (tuple, list)):
        return len(one) == len(other) and all(same(a, b) for a, b in zip(one, other))
    return one == other


def is_told_row(value, many):
    """Whether a value is a tuple of so many fractions, by their plain description."""
    return (
        type(value) is tuple
        and len(value) == many
        and all(type(number) is tuple and len(number) == 2 for number in value)
        and all(type(part) is int for number in value for part in number)
        and all(number[1] > 0 and same(number, pair(Fraction(*number))) for number in value)
    )


def lot_of(row):
    return tuple(place for place, number in enumerate(row) if number[0] != 0)


def plain_sums(table, row):
    """The sums, as numbers of Python's own."""
    numbers = numbers_of(row)
    return [sum(a * b for a, b in zip(numbers_of(line), numbers)) for line in table]


def takes_to_noughts(table, row):
    return any(number[0] for number in row) and not any(plain_sums(table, row))


def eliminated(table, lot):
    """The rows of the table on a lot, each with a leading 1 that stands alone; the places of these."""
    lines = [[Fraction(*line[place]) for place in lot] for line in table]
    leading = []
    for place in range(len(lot)):
        height = len(leading)
        chosen = [k for k in range(height, len(lines)) if lines[k][place]]
        if not chosen:
            continue
        lines[height], lines[chosen[0]] = lines[chosen[0]], lines[height]
        by = lines[height][place]
        lines[height] = [number / by for number in lines[height]]
        for k in range(len(lines)):
            if k != height and lines[k][place]:
                by = lines[k][place]
                lines[k] = [a - by * b for a, b in zip(lines[k], lines[height])]
        leading.append(place)
    return lines, leading


def rank_on(table, lot):
    return len(eliminated(table, lot)[1])


def only_dependence(table, lot):
    """The dependence whose lot is just this one, if all on it are its multiples; None."""
    lines, leading = eliminated(table, lot)
    if len(leading) != len(lot) - 1:
        return None
    apart = [place for place in range(len(lot)) if place not in leading][0]
    found = [Fraction(0)] * len(lot)
    found[apart] = Fraction(1)
    for line, place in zip(lines, leading):
        found[place] = -line[apart]
    if not all(found):
        return None
    told = [Fraction(0)] * len(table[0])
    for place, number in zip(lot, found):
        told[place] = number / found[0]
    return row_of(*told)


def lots_of(many, most=8):
    return [lot for k in range(min(most, many) + 1) for lot in combinations(range(many), k)]


def searched_least(table):
    """The least dependences, by a search over all lots: the lot, and all within it free."""
    many = len(table[0])
    found = {}
    for lot in lots_of(many)[1:]:
        if any(set(less) <= set(lot) for less in found):
            continue
        row = only_dependence(table, lot)
        if row is not None:
            found[lot] = row
    return tuple(found[lot] for lot in sorted(found))


def searched_most_told(table):
    """The greatest k for which the columns of all lots of 2 k places are free."""
    many = len(table[0])
    for count in range(many, -1, -1):
        lots = combinations(range(many), min(2 * count, many))
        if all(rank_on(table, lot) == len(lot) for lot in lots):
            return count


def random_table(seed, height, many, tops=(-2, -1, 0, 0, 1, 2, 3), bottoms=(1, 1, 1, 2, 3)):
    source = random.Random(seed)
    return tuple(
        tuple(pair(Fraction(source.choice(tops), source.choice(bottoms))) for _ in range(many))
        for _ in range(height)
    )


def shapes():
    return [(height, many) for height in range(1, 7) for many in range(1, 9)]


def identity(many):
    return table_of(*[[int(a == b) for b in range(many)] for a in range(many)])


SPECIAL = (
    WIDE,
    STEPS,
    table_of([0]),
    table_of([3]),
    table_of([0, 1]),
    table_of([0, 0, 0, 0, 0, 0, 0, 0]),
    table_of([1, 1, 1, 1, 1, 1, 1, 1]),
    table_of([1, -2, Fraction(1, 3), 4, Fraction(-5, 7), 6, 7, 8]),
    table_of([1, 2], [2, 4], [3, 6]),
    table_of([1, 2, 3], [0, 0, 0], [1, 2, 3]),
    table_of([0, 1, 1], [0, 2, 5]),
    table_of([1, 0, 1, 0], [0, 1, 0, 1]),
    table_of([1, 1, 2], [1, 1, 2], [0, 1, 1]),
    table_of([1, 0], [0, 1], [1, 1], [2, 3], [0, 0], [5, 5]),
    identity(2),
    identity(6),
    identity(4)[:3],
    table_of(*[[base ** power for base in range(8)] for power in range(6)]),
    table_of(*[[base ** power for base in range(1, 8)] for power in range(4)]),
    table_of([1, 0, 0, 1, 1, 0, 1], [0, 1, 0, 1, 0, 1, 1], [0, 0, 1, 0, 1, 1, 1]),
    table_of([Fraction(1, LONG), 1, LONG], [LONG, 1, Fraction(LONG - 1, LONG)]),
)


def many_tables():
    """The special tables and, of each shape, some with many equal and dependent columns."""
    tables = list(SPECIAL)
    for seed, (height, many) in enumerate(shapes()):
        tables.append(random_table(seed, height, many))
        tables.append(random_table(1000 + seed, height, many, (-1, 0, 0, 1), (1,)))
    return tables


def _nothing():
    return None


NO_TUPLES = (
    None, True, False, 0, 1, -1, LONG, "", "01", "1", b"", b"01", [], [1, 1], {}, {0: (1, 1)},
    {1, 2}, frozenset((0, 1)), range(2), object(), _nothing, int, Fraction(1), iter(()),
)
NO_FRACTIONS = NO_TUPLES + (
    (), (1,), (1, 1, 1), ((1, 1),), ((1, 1), (1, 1)), [0, 1], (2, 4), (4, 2), (-2, 2), (0, 2), (2, 2),
    (0, -1), (1, -1), (-1, -1), (1, -2), (1, 0), (0, 0), (-1, 0), (2, 0),
    (True, 1), (False, 1), (1, True), (0, True), (2, True), (True, True), (False, True), (True, 2),
    (1, False), (None, 1), (1, None), ("1", "1"), ("1", 1), (1, "1"), ((1,), 1), (1, (1,)), ([1], 1),
    (b"1", 1), (LONG, 2), (2, LONG), (LONG, -1), (LONG, LONG), (0, LONG), (Fraction(1), 1), (1, {}),
)
NO_COUNTS = tuple(value for value in NO_TUPLES if not same(value, 0) and not same(value, 1)) + (
    9, 10, 16, -2, -9, 1 - LONG, -LONG, (), (1,), (1, 1), (0, 1), ((1,),), [0], "8", {0}, Fraction(2),
)


def with_item(row, place, value):
    return row[:place] + (value,) + row[place + 1:]


def no_tables(table):
    """Values that are no table, most of them this one, bent."""
    height, many = len(table), len(table[0])
    bent = list(NO_TUPLES) + [
        (), ((),), ((), ()), ONE, row_of(1, 2, 3), table[0], (table,), ((table,),), list(table),
        [list(row) for row in table], dict(enumerate(table)), {"table": table}, (None,), (1,), ("11",),
        ([ONE],), table + ((),), table + (table[0][1:],), table + (table[0] + (ONE,),),
        table + (None,), (table[0] + (ONE,) * (9 - many),), (table[0],) * 7, table + (table[0],) * (7 - height),
        (row_of(*range(9)),) * height, (row_of(*range(9)),), ((ONE,) * 100,), ((ONE,),) * 100, ((),) * height,
    ]
    for at, row in enumerate(table):
        wrong_rows = [row + (ONE,), list(row), None, (), 1, "row", dict(enumerate(row)), (row,), row[0]]
        if height > 1:
            bent.extend(with_item(table, at, wrong) for wrong in wrong_rows + [row[1:]])
        else:
            bent.extend((wrong,) for wrong in [list(row), None, (), 1, "row", dict(enumerate(row)), (row,)])
        for place in range(many):
            bent.extend(with_item(table, at, with_item(row, place, wrong)) for wrong in NO_FRACTIONS)
    return bent


def no_readings(readings):
    """Values that are no readings, most of them these, bent."""
    many, width = len(readings), len(readings[0])
    column = tuple(row[0] for row in readings)
    bent = list(NO_TUPLES) + [
        (), ((),), ((), ()), ONE, column, (readings,), list(readings), [list(row) for row in readings],
        dict(enumerate(readings)), (None,), (1,), ("11",), ([ONE],), readings + ((),), readings + (None,),
        readings + (readings[0] + (ONE,),), readings + ((ONE,) * (5 - width) + readings[0],),
        ((NIL,),), ((NIL,) * width,) * 8, tuple((NIL,) * width for _ in readings), ((ONE, ONE), (TWO, TWO)),
        ((ONE, NIL, ONE), (NIL, ONE, ONE), (ONE, ONE, TWO), (TWO, ONE, THREE)), ((ONE, TWO),), ((ONE,) * 4,) * 8,
        ((ONE,),) * 9, readings + (readings[0],) * (9 - many), identity(5), tuple(row + row for row in readings),
        tuple(row + (NIL,) for row in readings), tuple(row + (row[0],) for row in readings), readings[:width - 1],
        table_of([1, 2, 3, 4, 5], [0, 1, 0, 0, 0], [0, 0, 1, 0, 0], [0, 0, 0, 1, 0], [0, 0, 0, 0, 1]), ((ONE,),) * 100,
    ]
    for at, row in enumerate(readings):
        wrong_rows = [row + (ONE,), row[1:], list(row), None, (), 1, "row", dict(enumerate(row)), (row,), row[0]]
        if many > 1:
            bent.extend(with_item(readings, at, wrong) for wrong in wrong_rows)
        for place in range(width):
            bent.extend(with_item(readings, at, with_item(row, place, wrong)) for wrong in NO_FRACTIONS)
    return bent


def no_rows(many):
    """Pairs of a value that is no row of so many fractions, and the index told for it."""
    row = row_of(*[Fraction(place + 1, 2) for place in range(many)])
    nones = list(NO_TUPLES) + [
        row + (ONE,), row[1:], row[:-1], row + row, (), (row,) * (many + 1), list(row), dict(enumerate(row)),
        row + (None,), row[1:] + (None, None), (None,) * (many + 1), {row}, (ONE,) * 9, (ONE,) * 100, [ONE] * many,
    ]
    bent = [(value, None) for value in nones if not (type(value) is tuple and len(value) == many)]
    for place in range(many):
        bent.extend((with_item(row, place, wrong), place) for wrong in NO_FRACTIONS)
        if place + 1 < many:
            bent.append((row[:place] + (None,) * (many - place), place))
            bent.append((with_item(with_item(row, many - 1, (2, 4)), place, (True, 1)), place))
    return bent


def no_lots(many):
    """Pairs of a value that is no lot of so many columns, and the index told for it."""
    lot = tuple(range(many))
    bent = [(value, None) for value in NO_TUPLES] + [(list(lot), None), ([0], None), (range(many), None)]
    wrong_ones = [value for value in NO_TUPLES if not (type(value) is int and 0 <= value < many)]
    wrong_ones += [many, many + 1, 8, 9, -many, (), (0,), (0, 1), NIL, ONE, [0], "0", 1 - LONG, Fraction(many)]
    for place in range(many):
        bent.extend((with_item(lot, place, wrong), place) for wrong in wrong_ones)
        bent.extend((lot[:place] + (wrong,), place) for wrong in wrong_ones)
        bent.append((lot[:place + 1] + (place,), place + 1))
        bent.append((lot[:place + 1] + (place,) * 1000, place + 1))
        bent.append((lot[:place + 1] + (-1, None), place + 1))
        bent.append((lot[:place + 1] + (0, None), place + 1))
        bent.extend((with_item(lot, place, flag), place) for flag in (True, False))
        if place:
            bent.append(((place, place - 1), 1))
            bent.append(((0, place, 0), 2))
            bent.append((lot[:place] + (place - 1,) + lot[place:], place))
    bent.extend((lot + (wrong,), many) for wrong in (many, many - 1, 0, -1, None, True, "x", (0,)))
    bent.append((lot + lot, many))
    bent.append((lot + tuple(range(many, 100)), many))
    bent.append(((many,) * 9, 0))
    return bent


NO_AMOUNTS = NO_FRACTIONS + (NIL, LESS, (-1, 2), (-LONG, 1), (-1, LONG))
NO_SIGNS = tuple(value for value in NO_TUPLES if type(value) is not int or value not in (-1, 0, 1)) + (
    2, -2, 8, 1 - LONG, (), (0,), (1,), NIL, ONE, LESS, [0], "-1", Fraction(-1),
)
NO_NUMBERS = tuple(value for value in NO_TUPLES if not same(value, 1)) + (
    0, 7, 8, 9, -1, -6, 1 - LONG, (), (1,), ONE, [1], "6", {6}, Fraction(2),
)


def no_amounts(many):
    """Pairs of a value that is no amounts for so many columns, and the index told for it."""
    bent = [(value, index) for value, index in no_rows(many)]
    amounts = row_of(*[Fraction(2, place + 1) for place in range(many)])
    for place in range(many):
        bent.extend((with_item(amounts, place, wrong), place) for wrong in NO_AMOUNTS)
        bent.append((amounts[:place] + (NIL,) * (many - place), place))
        bent.append((with_item(with_item(amounts, many - 1, None), place, LESS), place))
    return bent


def no_signs(many):
    """Pairs of a value that is no signs for so many columns, and the index told for it."""
    signs = tuple((-1, 0, 1)[place % 3] for place in range(many))
    nones = list(NO_TUPLES) + [
        signs + (0,), signs[1:], signs + signs, (), list(signs), dict(enumerate(signs)), (0,) * 9, (0,) * 100,
        range(many), (None,) * (many + 1), row_of(*[1] * (many + 1)),
    ]
    bent = [(value, None) for value in nones if not (type(value) is tuple and len(value) == many)]
    for place in range(many):
        bent.extend((with_item(signs, place, wrong), place) for wrong in NO_SIGNS)
        bent.append((signs[:place] + (2,) * (many - place), place))
        bent.append((with_item(with_item(signs, many - 1, None), place, True), place))
    return bent


def no_places():
    """Pairs of a value that is no places, and the index told for it."""
    right = row_of(0, 1, Fraction(-1, 2), 2, LONG, -3, Fraction(1, LONG), 7)
    bent = [(value, None) for value in NO_TUPLES if value != ()]
    bent += [(value, None) for value in ((), list(right), right + (THREE,), right * 2, (None,) * 9, {right[0]})]
    for many in range(1, 9):
        for place in range(many):
            bent.extend((with_item(right[:many], place, wrong), place) for wrong in NO_FRACTIONS)
            for other in range(place + 1, many):
                bent.append((with_item(right[:many], other, right[place]), other))
            bent.append((right[:place] + (None,) * (many - place), place))
    bent.append(((NIL, NIL, None), 1))
    bent.append(((NIL, None, NIL), 1))
    bent.append(((ONE, TWO, ONE, (2, 4)), 2))
    bent.append(((ONE, TWO, (2, 2), ONE), 2))
    bent.append((NIL, 0))
    bent.append((right[:3] + ((True, 1),), 3))
    return bent
