"""Fractions and rows of them, reckoned with; all are taken to be right."""

from math import gcd, lcm

NOUGHT = (0, 1)
ONE = (1, 1)
LESS = (-1, 1)


def reduced(top, bottom):
    """The fraction that stands for top / bottom, bottom not being 0."""
    common = gcd(top, bottom)
    if bottom < 0:
        common = -common
    return (top // common, bottom // common)


def plus(one, other):
    """The sum of two fractions."""
    return reduced(one[0] * other[1] + other[0] * one[1], one[1] * other[1])


def minus(one, other):
    """What is left of a fraction when another one is taken away."""
    return reduced(one[0] * other[1] - other[0] * one[1], one[1] * other[1])


def times(one, other):
    """The product of two fractions."""
    return reduced(one[0] * other[0], one[1] * other[1])


def over(one, other):
    """A fraction divided by another one, which is not 0."""
    return reduced(one[0] * other[1], one[1] * other[0])


def is_below(one, other):
    """Whether a fraction is less than another one."""
    return one[0] * other[1] < other[0] * one[1]


def sum_of_products(one, other):
    """The sum of the products of two rows, place by place."""
    total = NOUGHT
    for here, there in zip(one, other):
        total = plus(total, times(here, there))
    return total


def all_sums(table, row):
    """A x: for each row of the table the sum of its products with a row."""
    return tuple(sum_of_products(numbers, row) for numbers in table)


def products_of(table, numbers):
    """A'y: for each column the sum of its products with numbers, one for each row of the table."""
    return tuple(sum_of_products(column, numbers) for column in zip(*table))


def whole_product(one, other):
    """The sum of the products of two rows of whole numbers, place by place."""
    return sum(here * there for here, there in zip(one, other))


def row_plus(one, other):
    """The sum of two rows, place by place."""
    return tuple(plus(here, there) for here, there in zip(one, other))


def row_minus(one, other):
    """What is left of a row when another one is taken away."""
    return tuple(minus(here, there) for here, there in zip(one, other))


def row_times(factor, row):
    """A row times a fraction."""
    return tuple(times(factor, number) for number in row)


def common_bottom(row):
    """The least common denominator of the numbers of a row."""
    common = 1
    for _, bottom in row:
        common = lcm(common, bottom)
    return common


def whole_row(row):
    """The numbers of a row times their least common denominator."""
    common = common_bottom(row)
    return [top * (common // bottom) for top, bottom in row]


def row_of_wholes(wholes):
    """The row of whole numbers."""
    return tuple((whole, 1) for whole in wholes)


def lowest(wholes):
    """Whole numbers, not all 0, divided by what divides all of them."""
    common = 0
    for whole in wholes:
        common = gcd(common, whole)
    return [whole // common for whole in wholes]


def lot_of(row):
    """The places at which a row is not 0."""
    return tuple(place for place, number in enumerate(row) if number != NOUGHT)


def signs_of(row):
    """The signs of the numbers of a row."""
    return tuple((number[0] > 0) - (number[0] < 0) for number in row)


def row_on(row, lot):
    """The row that is as a told one on a lot and 0 elsewhere."""
    return tuple(number if place in lot else NOUGHT for place, number in enumerate(row))


def size_of(number):
    """A fraction without its sign."""
    return (abs(number[0]), number[1])


def sizes_of(row):
    """The row of the sizes of the numbers of a row."""
    return tuple(size_of(number) for number in row)


def cost_of(amounts, row):
    """The sum of the sizes of a row, each times the amount at its place."""
    return sum_of_products(amounts, sizes_of(row))


def has_sums_of_noughts(table, row):
    """Whether all sums of a row are 0."""
    wholes = whole_row(row)
    return all(whole_product(whole_row(numbers), wholes) == 0 for numbers in table)


def is_dependence_of(table, row):
    """Whether a row is not noughts and has sums of noughts."""
    return lot_of(row) != () and has_sums_of_noughts(table, row)
