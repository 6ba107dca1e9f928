"""A plain reckoning of costs, in numbers of Python's own, beside the program's."""

import random
from fractions import Fraction
from itertools import combinations

from tests.support import (
    LONG, eliminated, lots_of, numbers_of, pair, random_table, rank_on, row_of, searched_least, table_of,
)


def plain_cost(amounts, row):
    return sum(amount * abs(number) for amount, number in zip(numbers_of(amounts), numbers_of(row)))


def plain_products(table, prices):
    """A'y as numbers."""
    numbers = numbers_of(prices)
    return [sum(a * b for a, b in zip(numbers, numbers_of(column))) for column in zip(*table)]


def row_plus(one, other):
    return row_of(*[a + b for a, b in zip(numbers_of(one), numbers_of(other))])


def opposite(row):
    return row_of(*[-number for number in numbers_of(row)])


def both_ways(table):
    """The least dependences, as a search finds them, and their opposites."""
    return [row for least in searched_least(table) for row in (least, opposite(least))]


def number_below(row):
    return sum(1 for number in row if number[0] < 0)


def weights(amounts, row):
    return [amount * abs(number) for amount, number in zip(numbers_of(amounts), numbers_of(row))]


def dearest_and_others(amounts, row, count):
    ranked = sorted(weights(amounts, row), reverse=True)
    return sum(ranked[:count]), sum(ranked[count:])


def on_and_off(amounts, row, lot):
    sizes = weights(amounts, row)
    return sum(sizes[place] for place in lot), sum(sizes[k] for k in range(len(sizes)) if k not in lot)


def signed_and_off(amounts, row, signs):
    """The size of the signed sum on the lot of signs, and what the rest costs."""
    parts = [amount * number for amount, number in zip(numbers_of(amounts), numbers_of(row))]
    signed = sum(part * sign for part, sign in zip(parts, signs))
    return abs(signed), sum(abs(part) for part, sign in zip(parts, signs) if sign == 0)


def quotient(pairs):
    """The greatest quotient of pairs, as a fraction; None if something is divided by 0."""
    if any(other == 0 for _, other in pairs):
        return None
    return pair(max((one / other for one, other in pairs), default=Fraction(0)))


def rise(amounts, row, along):
    """How the cost of a row begins to grow along another one."""
    total = Fraction(0)
    for amount, number, step in zip(numbers_of(amounts), numbers_of(row), numbers_of(along)):
        total += amount * (abs(step) if number == 0 else step if number > 0 else -step)
    return total


def searched_rows(table, sums):
    """All rows with these sums whose lots are free, by their lots."""
    found = {}
    for lot in lots_of(len(table[0]), len(table)):
        beside = tuple(tuple(line[place] for place in lot) + (number,) for line, number in zip(table, sums))
        lines, leading = eliminated(beside, range(len(lot) + 1))
        if leading != list(range(len(lot))):
            continue
        row = [Fraction(0)] * len(table[0])
        for place, line in zip(lot, lines):
            row[place] = line[-1]
        if all(row[place] for place in lot):
            found[lot] = row_of(*row)
    return found


def searched_corners(table, amounts, sums):
    found = searched_rows(table, sums)
    least = min(plain_cost(amounts, row) for row in found.values())
    return tuple(found[lot] for lot in sorted(found) if plain_cost(amounts, found[lot]) == least)


def some_row_has(table, sums):
    beside = tuple(line + (number,) for line, number in zip(table, sums))
    return rank_on(beside, range(len(table[0]) + 1)) == rank_on(table, range(len(table[0])))


def steps_for(table, count):
    """The sizes of each least dependence, with those on each lot of so many of its places below 0."""
    steps = []
    for row in searched_least(table):
        sizes = [abs(number) for number in numbers_of(row)]
        lot = [place for place, size in enumerate(sizes) if size]
        for chosen in combinations(lot, min(count, len(lot))):
            steps.append([-size if place in chosen else size for place, size in enumerate(sizes)])
    return steps


def some_add_to_nothing_above(steps):
    """Whether some of these, not all 0 times, add up to a row nowhere above 0 (Bland's simplex)."""
    height, many = len(steps[0]), len(steps)
    lines = [[Fraction(step[k]) for step in steps] + _unit(k, height + 1) + [Fraction(0)] for k in range(height)]
    lines.append([Fraction(1)] * many + _unit(height, height + 1) + [Fraction(1)])
    gain = [Fraction(-1)] * many + [Fraction(0)] * (height + 2)
    basis = [many + k for k in range(height + 1)]
    while min(gain[:-1]) < 0:
        entering = [k for k, number in enumerate(gain[:-1]) if number < 0][0]
        ratios = [(line[-1] / line[entering], basis[k], k) for k, line in enumerate(lines) if line[entering] > 0]
        leaving = min(ratios)[2]
        by = lines[leaving][entering]
        lines[leaving] = [number / by for number in lines[leaving]]
        for k in range(height + 1):
            if k != leaving:
                lines[k] = _less(lines[k], lines[k][entering], lines[leaving])
        gain = _less(gain, gain[entering], lines[leaving])
        basis[leaving] = entering
    return gain[-1] > 0


def _unit(place, many):
    return [Fraction(int(k == place)) for k in range(many)]


def _less(line, by, other):
    return [a - by * b for a, b in zip(line, other)] if by else line


def ones(many):
    return row_of(*[1] * many)


def random_amounts(seed, many):
    source = random.Random(seed)
    return row_of(*[Fraction(source.randint(1, 6), source.randint(1, 3)) for _ in range(many)])


def random_row(seed, many, tops=(-3, -1, 0, 0, 0, 1, 2)):
    source = random.Random(seed)
    return row_of(*[Fraction(source.choice(tops), source.choice((1, 1, 2))) for _ in range(many)])


def random_lots(seed, many, times):
    source = random.Random(seed)
    return [tuple(k for k in range(many) if source.random() < 0.35) for _ in range(times)]


def long_numbers_table(seed, height, many, figures=100):
    source = random.Random(seed)
    top = 10 ** figures
    return table_of(*[
        [Fraction(source.randint(-top, top), source.randint(1, top)) for _ in range(many)] for _ in range(height)
    ])


def long_amounts(many):
    return row_of(*[Fraction(LONG + 3 * place, LONG - 7 ** place) for place in range(many)])


def cases(tables, seed=0):
    """Each table with amounts: all 1, and others."""
    found = []
    for at, table in enumerate(tables):
        many = len(table[0])
        found.append((table, ones(many)))
        if at % 2 == seed % 2:
            found.append((table, random_amounts(seed + at, many)))
    return found


def small_tables(seed, times):
    """Tables with small whole numbers, of all shapes, many of which give back something."""
    source = random.Random(seed)
    tables = []
    for at in range(times):
        height, many = source.randint(1, 6), source.randint(1, 8)
        tops = ((-1, 0, 1), tuple(range(-9, 10)), (1, 2, 3, 5, -4))[at % 3]
        tables.append(random_table(seed * 1000 + at, height, many, tops, (1,)))
    return tables
