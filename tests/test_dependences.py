"""Dependences, the least ones, and the parts of a dependence."""

import random
import unittest
from fractions import Fraction

from fewtold.dependences import is_dependence, least_dependences, parts_of
from fewtold.errors import NotDependent
from fewtold.tables import sums_of
from tests.support import (
    LESS, LONG, NIL, ONE, SPECIAL, STEPS, THREE, WIDE, identity, is_told_row, lot_of, many_tables, numbers_of,
    random_table, rank_on, row_of, same, searched_least, table_of, takes_to_noughts, with_item,
)

THIRD = Fraction(1, 3)
FACTORS = (-3, -1, Fraction(-1, 2), Fraction(2, 3), 1, 2, 5)


def times(factor, row):
    return row_of(*[factor * number for number in numbers_of(row)])


def total(rows):
    return row_of(*[sum(numbers) for numbers in zip(*[numbers_of(row) for row in rows])])


def long_table():
    """Six rows of seven, whose one dependence has numbers of thousands of figures."""
    return table_of(*[
        [Fraction(LONG + 7 * place + row * row * place + 1, LONG - 3 ** place * (row + 2)) for place in range(7)]
        for row in range(6)
    ])


class LeastDependencesTest(unittest.TestCase):
    def _tells(self, table, *rows):
        self.assertTrue(same(least_dependences(table), tuple(row_of(*row) for row in rows)), table)

    def test_examples(self):
        half = Fraction(1, 2)
        self._tells(WIDE, [1, 1, -1, 0], [1, -1, 0, -1], [1, 0, -half, -half], [0, 1, -half, half])
        self._tells(STEPS, [1, -3, 3, -1])

    def test_no_dependence(self):
        for many in range(1, 7):
            self._tells(identity(many))
        self._tells(table_of([3]))
        self._tells(table_of([1, 2], [2, 4], [3, 7]))
        self._tells(table_of([1, 0], [0, 1], [1, 1], [2, 3], [0, 0], [5, 5]))

    def test_columns_of_noughts(self):
        self._tells(table_of([0]), [1])
        self._tells(table_of([0, 1]), [1, 0])
        self._tells(table_of([1, 0]), [0, 1])
        self._tells(table_of([1, 0, 2], [1, 0, 2]), [1, 0, Fraction(-1, 2)], [0, 1, 0])
        self._tells(table_of([0, 0, 0], [0, 0, 0]), [1, 0, 0], [0, 1, 0], [0, 0, 1])

    def test_equal_columns(self):
        self._tells(table_of([1, 1]), [1, -1])
        self._tells(table_of([5, 5, 5]), [1, -1, 0], [1, 0, -1], [0, 1, -1])
        self._tells(table_of([1, 0, 1], [2, 1, 2]), [1, 0, -1])
        self._tells(table_of([2, 3, -2], [4, 0, -4]), [1, 0, 1])

    def test_more_rows_than_columns(self):
        self._tells(table_of([1, 2], [2, 4], [3, 6]), [1, Fraction(-1, 2)])
        self._tells(table_of([1, 2, 3], [0, 0, 0], [1, 1, 2], [2, 3, 5]), [1, 1, -1])
        self._tells(table_of([0], [0], [0], [0], [0], [0]), [1])
        self._tells(table_of([0], [0], [0], [0], [0], [9]))

    def test_the_order_is_that_of_the_lots_as_tuples(self):
        half = Fraction(1, 2)
        self._tells(table_of([1, 0, 1, 2], [0, 1, 1, 0]), [1, 1, -1, 0], [1, 0, 0, -half], [0, 1, -1, half])

    def test_fractions(self):
        self._tells(table_of([THIRD, Fraction(-3, 7)]), [1, Fraction(7, 9)])
        self._tells(table_of([Fraction(1, 2), 0, THIRD], [0, Fraction(3, 4), 1]), [1, 2, Fraction(-3, 2)])

    def test_rows_do_not_matter_beyond_what_they_take_to_noughts(self):
        for table in SPECIAL:
            told = least_dependences(table)
            self.assertTrue(same(least_dependences(table[::-1]), told))
            self.assertTrue(same(least_dependences(tuple(times(Fraction(-5, 3), row) for row in table)), told))
            if len(table) < 6:
                self.assertTrue(same(least_dependences(table + (total(table),)), told))

    def test_what_each_one_is(self):
        for table in many_tables():
            told = least_dependences(table)
            self.assertIs(type(told), tuple)
            lots = [lot_of(row) for row in told]
            self.assertEqual(lots, sorted(lots))
            for row, lot in zip(told, lots):
                self.assertTrue(is_told_row(row, len(table[0])))
                self.assertTrue(takes_to_noughts(table, row))
                self.assertTrue(same(row[lot[0]], ONE))
                self.assertEqual([other for other in lots if set(other) <= set(lot)], [lot])

    def test_a_search_over_all_lots_finds_no_other(self):
        for table in many_tables():
            self.assertTrue(same(least_dependences(table), searched_least(table)), table)

    def test_long_numbers(self):
        table = table_of([1, Fraction(LONG - 1, LONG)], [LONG, LONG - 1])
        self._tells(table, [1, Fraction(-LONG, LONG - 1)])
        self._tells(with_item(table, 1, row_of(LONG, LONG)))

    def test_numbers_longer_than_python_writes(self):
        table = long_table()
        told = least_dependences(table)
        self.assertTrue(len(told) == 1)
        self.assertTrue(max(number[1].bit_length() for number in told[0]) > 15000)
        self.assertTrue(is_told_row(told[0], 7))
        self.assertTrue(takes_to_noughts(table, told[0]))
        self.assertTrue(is_dependence(table, told[0]) is True)
        self.assertTrue(same(parts_of(table, told[0]), told))
        self.assertTrue(same(sums_of(table, told[0]), (NIL,) * 6))
        self.assertTrue(same(least_dependences(told), searched_least(told)))
        self.assertTrue(is_dependence(told, table[0]) is True)

    def test_by_name(self):
        self.assertTrue(same(least_dependences(table=STEPS), (row_of(1, -3, 3, -1),)))

    def test_equal_calls(self):
        first = least_dependences(WIDE)
        least_dependences(STEPS)
        self.assertTrue(same(least_dependences(tuple(list(WIDE))), first))


class IsDependenceTest(unittest.TestCase):
    def test_examples(self):
        self.assertIs(is_dependence(WIDE, (THREE, ONE, (-2, 1), LESS)), True)
        self.assertIs(is_dependence(WIDE, (ONE, ONE, ONE, ONE)), False)

    def test_noughts(self):
        for table in many_tables():
            self.assertIs(is_dependence(table, (NIL,) * len(table[0])), False)

    def test_multiples_of_least_ones(self):
        for table in many_tables():
            for row in least_dependences(table):
                for factor in FACTORS:
                    self.assertIs(is_dependence(table, times(factor, row)), True)

    def test_sums_of_least_ones(self):
        for table in many_tables():
            told = least_dependences(table)
            for one, other in zip(told, told[1:]):
                row = total([times(2, one), times(Fraction(-1, 3), other)])
                self.assertIs(is_dependence(table, row), True)

    def test_one_number_off(self):
        for table in many_tables():
            for row in least_dependences(table)[:6]:
                for place in range(len(row)):
                    off = with_item(row, place, row_of(numbers_of(row)[place] + Fraction(1, LONG))[0])
                    nought_column = all(line[place] == NIL for line in table)
                    self.assertIs(is_dependence(table, off), nought_column)

    def test_one_row_is_not_enough(self):
        self.assertIs(is_dependence(table_of([1, 1], [1, 2]), row_of(1, -1)), False)
        self.assertIs(is_dependence(table_of([1, 2], [1, 1]), row_of(1, -1)), False)
        self.assertIs(is_dependence(table_of([1, 1], [2, 2]), row_of(1, -1)), True)
        self.assertIs(is_dependence(table_of([0, 0], [0, 0], [1, -1]), row_of(0, 1)), False)

    def test_places_alone(self):
        for table in SPECIAL:
            many = len(table[0])
            for place in range(many):
                row = with_item((NIL,) * many, place, (-2, 3))
                self.assertIs(is_dependence(table, row), all(line[place] == NIL for line in table))

    def test_any_rows(self):
        source = random.Random(11)
        for table in many_tables():
            for _ in range(10):
                row = row_of(*[source.choice((-1, 0, 0, 1)) for _ in table[0]])
                self.assertIs(is_dependence(table, row), takes_to_noughts(table, row))

    def test_by_name(self):
        self.assertIs(is_dependence(table=STEPS, row=row_of(1, -3, 3, -1)), True)
        self.assertIs(is_dependence(row=row_of(1, -3, 3, 1), table=STEPS), False)
        self.assertIs(is_dependence(STEPS, row=row_of(1, -3, 3, -1)), True)

    def test_equal_calls(self):
        row = row_of(1, -3, 3, -1)
        self.assertIs(is_dependence(STEPS, row), True)
        self.assertIs(is_dependence(WIDE, row), False)
        self.assertIs(is_dependence(STEPS, row), True)


class PartsTest(unittest.TestCase):
    def _check(self, table, row):
        """All that the promise and the interface say of the parts of a row."""
        parts = parts_of(table, row)
        many = len(table[0])
        self.assertIs(type(parts), tuple)
        self.assertTrue(1 <= len(parts) <= many - rank_on(table, range(many)), (table, row))
        least = {lot_of(known): numbers_of(known) for known in least_dependences(table)}
        for part in parts:
            self.assertTrue(is_told_row(part, many))
            lot = lot_of(part)
            self.assertIn(lot, least)
            factor = numbers_of(part)[lot[0]]
            self.assertEqual(numbers_of(part), [factor * number for number in least[lot]])
            for number, whole in zip(part, row):
                self.assertTrue(number[0] == 0 or number[0] * whole[0] > 0, (table, row))
        self.assertTrue(same(total(parts), row))
        return parts

    def test_example(self):
        row = (THREE, ONE, (-2, 1), LESS)
        want = [((1, 1), (1, 1), (-1, 1), (0, 1)), ((2, 1), (0, 1), (-1, 1), (-1, 1))]
        self.assertTrue(same(sorted(parts_of(WIDE, row)), want))
        self._check(WIDE, row)
        self._check(WIDE, times(-1, row))

    def test_the_only_least_one(self):
        for factor in FACTORS + (THIRD, LONG, Fraction(-1, LONG)):
            row = times(factor, row_of(1, -3, 3, -1))
            self.assertTrue(same(parts_of(STEPS, row), (row,)))

    def test_multiples_of_least_ones(self):
        for table in many_tables():
            for row in least_dependences(table)[:12]:
                self._check(table, row)
                self._check(table, times(-1, row))
                self._check(table, times(Fraction(-7, 3), row))

    def test_sums_of_least_ones(self):
        source = random.Random(13)
        for table in many_tables():
            told = least_dependences(table)
            for _ in range(8 if len(told) > 1 else 0):
                row = total([times(source.choice(FACTORS), source.choice(told)) for _ in range(source.randint(2, 6))])
                if takes_to_noughts(table, row):
                    self._check(table, row)

    def test_noughts_in_the_table(self):
        row = row_of(1, -2, THIRD, 4, -5, 6, 7, -8)
        parts = self._check(table_of([0] * 8, [0] * 8), row)
        self.assertEqual(sorted(lot_of(part) for part in parts), [(place,) for place in range(8)])
        self._check(table_of([0] * 8), row_of(0, 0, 3, 0, 0, -1, 0, 0))
        self._check(table_of([0, 1, -1]), row_of(5, 2, 2))
        self._check(table_of([0, 1, -1]), row_of(-5, 2, 2))
        self._check(table_of([0, 1, -1]), row_of(0, -2, -2))
        self._check(table_of([0, 1, -1]), row_of(-5, 0, 0))

    def test_one_row_of_eight(self):
        self._check(table_of([1] * 8), row_of(7, -1, -1, -1, -1, -1, -1, -1))
        self._check(table_of([1] * 8), row_of(1, -1, 2, -2, 3, -3, 4, -4))
        self._check(table_of([1] * 8), row_of(1, 2, 3, 4, -4, -3, -2, -1))
        self._check(table_of([1, 2, 3, 4, -1, -2, -3, -4]), row_of(1, 1, 1, 1, 1, 1, 1, 1))

    def test_long_numbers(self):
        table = table_of([1, Fraction(LONG - 1, LONG), 1, 0], [0, 1, 0, Fraction(1, LONG)])
        one, other = least_dependences(table)[0], least_dependences(table)[-1]
        self._check(table, total([times(LONG, one), times(Fraction(-1, LONG), other)]))
        self._check(table, total([times(-LONG, one), times(LONG - 1, other)]))

    def test_no_dependence(self):
        self._refuses(WIDE, (ONE, ONE, ONE, ONE))
        self._refuses(table_of([1, 1], [1, 2]), row_of(1, -1))
        self._refuses(identity(3), row_of(0, 0, 1))
        self._refuses(STEPS, row_of(1, -3, 3, Fraction(1 - LONG, LONG)))
        self._refuses(STEPS, row_of(1, 3, 3, 1))

    def test_noughts(self):
        for table in SPECIAL:
            self._refuses(table, (NIL,) * len(table[0]))

    def test_any_rows(self):
        source = random.Random(17)
        for table in many_tables():
            for _ in range(6):
                row = row_of(*[source.choice((-1, 0, 0, 1, 2)) for _ in table[0]])
                if takes_to_noughts(table, row):
                    self._check(table, row)
                else:
                    self._refuses(table, row)

    def _refuses(self, table, row):
        with self.assertRaises(NotDependent) as caught:
            parts_of(table, row)
        self.assertIs(type(caught.exception), NotDependent)

    def test_by_name(self):
        row = row_of(1, -3, 3, -1)
        self.assertTrue(same(parts_of(table=STEPS, row=row), (row,)))
        self.assertTrue(same(parts_of(row=row, table=STEPS), (row,)))
        self.assertTrue(same(parts_of(STEPS, row=row), (row,)))
        with self.assertRaises(NotDependent):
            parts_of(row=row_of(1, 0, 0, 0), table=STEPS)

    def test_equal_calls(self):
        for table in (WIDE, table_of([1] * 8), random_table(5, 3, 8)):
            row = total(least_dependences(table)[:4])
            first = parts_of(table, row)
            least_dependences(STEPS)
            self.assertTrue(same(parts_of(tuple(list(table)), tuple(list(row))), first))


class PlacesTest(unittest.TestCase):
    def test_defined_in_the_file_of_dependences(self):
        for function in (least_dependences, is_dependence, parts_of):
            self.assertEqual(function.__module__, "fewtold.dependences")


if __name__ == "__main__":
    unittest.main()
