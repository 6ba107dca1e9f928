"""What a table tells, and twin rows."""

import unittest
from fractions import Fraction

from fewtold.dependences import least_dependences
from fewtold.told import is_told, most_told, twin_rows
from tests.support import (
    LONG, NIL, ONE, SPECIAL, STEPS, WIDE, identity, is_told_row, lot_of, many_tables, plain_sums, random_table, same,
    searched_most_told, table_of,
)


class ToldTest(unittest.TestCase):
    def _check(self, table, most):
        """All answers for a table, given the greatest k up to its columns that it tells."""
        many = len(table[0])
        self.assertTrue(same(most_told(table), most), table)
        for count in range(9):
            tells = count <= most or most == many
            self.assertIs(is_told(table, count), tells, (table, count))
            if tells:
                self.assertIsNone(twin_rows(table, count), (table, count))
            else:
                self._check_twins(table, count)

    def _check_twins(self, table, count):
        twins = twin_rows(table, count)
        self.assertIs(type(twins), tuple)
        self.assertEqual(len(twins), 2)
        for row in twins:
            self.assertTrue(is_told_row(row, len(table[0])))
            self.assertTrue(len(lot_of(row)) <= count, (table, count))
        self.assertNotEqual(twins[0], twins[1])
        self.assertEqual(plain_sums(table, twins[0]), plain_sums(table, twins[1]))

    def test_examples(self):
        self.assertTrue(same(most_told(STEPS), 1))
        self.assertIs(is_told(STEPS, 1), True)
        self.assertIs(is_told(STEPS, 2), False)
        self.assertIsNone(twin_rows(STEPS, 1))
        self.assertTrue(same(most_told(((ONE, NIL), (NIL, ONE))), 2))
        self.assertTrue(same(most_told(((NIL, ONE),)), 0))

    def test_examples_in_full(self):
        self._check(STEPS, 1)
        self._check(WIDE, 1)
        self._check(((ONE, NIL), (NIL, ONE)), 2)
        self._check(((NIL, ONE),), 0)

    def test_without_a_dependence_all_are_told(self):
        for many in range(1, 7):
            self._check(identity(many), many)
        self._check(table_of([5]), 1)
        self._check(table_of([1, 2], [2, 4], [3, 7]), 2)
        for seed in range(20):
            table = random_table(seed, 6, 1 + seed // 4)
            if not least_dependences(table):
                self._check(table, len(table[0]))

    def test_powers(self):
        for height in range(1, 7):
            for many in range(1, 9):
                table = table_of(*[[base ** power for base in range(many)] for power in range(height)])
                self._check(table, many if many <= height else height // 2)

    def test_columns_of_noughts_and_multiples(self):
        self._check(table_of([0]), 0)
        self._check(table_of([0] * 8, [0] * 8), 0)
        self._check(table_of([1, 0, 2], [0, 0, 1]), 0)
        self._check(table_of([1, -2], [3, -6]), 0)
        self._check(table_of([1, 1, 2], [1, 1, 3]), 0)
        self._check(table_of([1, 0, 1], [0, 1, 1]), 1)
        self._check(table_of([1, 0, 0, 1], [0, 1, 0, 1], [0, 0, 1, 0]), 1)

    def test_two_more_places_for_one_more_number(self):
        for places, most in ((1, 0), (2, 0), (3, 1), (4, 1), (5, 2), (6, 2), (7, 3)):
            height = places - 1
            rows = [[int(a == b) for b in range(height)] + [1] for a in range(height)]
            rows += [[0] * places] * (1 if height < 6 else 0)
            self._check(table_of(*rows), most)

    def test_any_tables_by_free_lots(self):
        for table in many_tables():
            self._check(table, searched_most_told(table))

    def test_the_least_dependence_with_the_fewest_places_says_it(self):
        for table in many_tables():
            sizes = [len(lot_of(row)) for row in least_dependences(table)]
            for count in range(9):
                self.assertIs(is_told(table, count), all(size > 2 * count for size in sizes))

    def test_twins_of_one_number_each(self):
        first, second = twin_rows(table_of([2, -3]), 1)
        self.assertEqual(plain_sums(table_of([2, -3]), first), plain_sums(table_of([2, -3]), second))
        self._check_twins(table_of([2, -3]), 1)
        self._check_twins(table_of([1, 0, 2], [0, 0, 1]), 1)

    def test_hardly_told(self):
        close = table_of([1, Fraction(LONG - 1, LONG)], [1, Fraction(LONG - 2, LONG - 1)])
        self._check(close, 2)
        self._check(table_of([1, Fraction(LONG - 1, LONG)], [LONG, LONG - 1]), 0)

    def test_what_is_told_may_be_a_table(self):
        for table in SPECIAL:
            told = least_dependences(table)[:6]
            if told:
                self._check(told, searched_most_told(told))
            twins = twin_rows(table, 8)
            if twins is not None:
                self._check(twins, searched_most_told(twins))

    def test_by_name(self):
        self.assertTrue(same(most_told(table=STEPS), 1))
        self.assertIs(is_told(table=STEPS, count=1), True)
        self.assertIs(is_told(count=2, table=STEPS), False)
        self.assertIs(is_told(STEPS, count=2), False)
        self.assertIsNone(twin_rows(count=1, table=STEPS))
        self.assertTrue(same(twin_rows(count=2, table=STEPS), twin_rows(STEPS, 2)))
        self.assertTrue(same(twin_rows(STEPS, count=2), twin_rows(STEPS, 2)))

    def test_equal_calls(self):
        first = twin_rows(WIDE, 2)
        self.assertTrue(same(most_told(STEPS), 1))
        self.assertTrue(same(most_told(identity(4)), 4))
        self.assertTrue(same(most_told(STEPS), 1))
        self.assertIs(is_told(STEPS, 2), False)
        self.assertIs(is_told(identity(4), 2), True)
        self.assertIs(is_told(STEPS, 2), False)
        self.assertTrue(same(twin_rows(tuple(list(WIDE)), 2), first))

    def test_defined_in_the_file_of_told(self):
        for function in (most_told, is_told, twin_rows):
            self.assertEqual(function.__module__, "fewtold.told")


if __name__ == "__main__":
    unittest.main()
