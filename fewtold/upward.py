"""Least dependences and their opposites by where they are below 0; in whole numbers."""

from fewtold.columns import least_marks, opposite
from fewtold.rows import whole_row
from fewtold.shares import weights_of


def both_ways(table):
    """The least dependences, each before its opposite."""
    return [marks for upright in least_marks(table) for marks in (upright, opposite(upright))]


def number_below(marks):
    """How many numbers are below 0."""
    return len([mark for mark in marks if mark < 0])


def low_marks(found, count):
    """The first of some with at most so many numbers below 0; None."""
    for marks in found:
        if number_below(marks) <= count:
            return marks
    return None


def not_dear(table, amounts):
    """The least ones and opposites whose sum of numbers times amounts is not above 0."""
    wholes = whole_row(amounts)
    return [marks for marks in both_ways(table) if sum(weights_of(marks, wholes)) <= 0]


def sums_off(marks, lot):
    """The sizes below 0 and those above 0 at the places off a lot, each added up."""
    off_lot = [mark for place, mark in enumerate(marks) if place not in lot]
    return (sum(-mark for mark in off_lot if mark < 0), sum(mark for mark in off_lot if mark > 0))


def held_marks(table, lot):
    """The first least dependence, or opposite of one, without a number below 0 off the lot; None."""
    for marks in both_ways(table):
        if sums_off(marks, lot)[0] == 0:
            return marks
    return None
