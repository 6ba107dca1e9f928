"""Fractions and rows of them, reckoned with; all are taken to be right."""

from math import gcd, lcm

NOUGHT = (0, 1)
ONE = (1, 1)
LESS = (-1, 1)


def reduced(top, bottom):
    """The fraction that stands for top / bottom, bottom not being 0."""
    common = gcd(top, bottom)
    if bottom < 0:
        common = -common
    return (top // common, bottom // common)


def plus(one, other):
    """The sum of two fractions."""
    return reduced(one[0] * other[1] + other[0] * one[1], one[1] * other[1])


def minus(one, other):
    """What is left of a fraction when another one is taken away."""
    return reduced(one[0] * other[1] - other[0] * one[1], one[1] * other[1])


def times(one, other):
    """The product of two fractions."""
    return reduced(one[0] * other[0], one[1] * other[1])


def over(one, other):
    """A fraction divided by another one, which is not 0."""
    return reduced(one[0] * other[1], one[1] * other[0])


def is_below(one, other):
    """Whether a fraction is less than another one."""
    return one[0] * other[1] < other[0] * one[1]


def sum_of_products(one, other):
    """The sum of the products of two rows, place by place."""
    total = NOUGHT
    for here, there in zip(one, other):
        total = plus(total, times(here, there))
    return total


def row_minus(one, other):
    """What is left of a row when another one is taken away."""
    return tuple(minus(here, there) for here, there in zip(one, other))


def row_times(factor, row):
    """A row times a fraction."""
    return tuple(times(factor, number) for number in row)


def common_bottom(row):
    """The least common denominator of the numbers of a row."""
    common = 1
    for _, bottom in row:
        common = lcm(common, bottom)
    return common


def whole_row(row):
    """The numbers of a row times their least common denominator."""
    common = common_bottom(row)
    return [top * (common // bottom) for top, bottom in row]


def lowest(wholes):
    """Whole numbers, not all 0, divided by what divides all of them."""
    common = 0
    for whole in wholes:
        common = gcd(common, whole)
    return [whole // common for whole in wholes]


def lot_of(row):
    """The places at which a row is not 0."""
    return tuple(place for place, number in enumerate(row) if number != NOUGHT)


def signs_of(row):
    """The signs of the numbers of a row."""
    return tuple((number[0] > 0) - (number[0] < 0) for number in row)


def row_on(row, lot):
    """The row that is as a told one on a lot and 0 elsewhere."""
    return tuple(number if place in lot else NOUGHT for place, number in enumerate(row))


def cost_of(amounts, row):
    """The sum of the sizes of a row, each times the amount at its place."""
    return sum_of_products(amounts, [(abs(top), bottom) for top, bottom in row])


def has_sums_of_noughts(table, row):
    """Whether all sums of a row are 0."""
    return all(sum_of_products(numbers, row) == NOUGHT for numbers in table)
