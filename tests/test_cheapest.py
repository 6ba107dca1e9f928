"""Cheapest rows, corners, prices, and what shows that a row comes back or does not."""

import unittest
from fractions import Fraction

from fewtold.cheapest import (
    cheaper_dependence, cheapest_corners, cheapest_row, is_cheapest, is_only_cheapest, least_cost, price_row,
    showing_row,
)
from fewtold.dependences import is_dependence, least_dependences
from fewtold.errors import NoRow
from fewtold.tables import sums_of
from tests.reckoning import (
    both_ways, cases, long_amounts, long_numbers_table, ones, plain_cost, plain_products, random_amounts, random_row,
    rise, row_plus, searched_corners, small_tables, some_row_has,
)
from tests.support import (
    HALF, LESS, LONG, NIL, ONE, SPECIAL, STEPS, THREE, TWO, WIDE, identity, is_told_row, lot_of, many_tables,
    numbers_of, pair, plain_sums, rank_on, row_of, same, table_of,
)

ALL_ONE, UNLIKE, FEW = (ONE,) * 4, (TWO, TWO, THREE, THREE), (ONE, NIL, ONE, NIL)
OF_SUMS = (least_cost, cheapest_row, cheapest_corners, price_row)


class SumsTest(unittest.TestCase):
    """The functions that are given sums."""

    def test_examples(self):
        got = [
            least_cost(WIDE, UNLIKE, (TWO, ONE)), cheapest_row(WIDE, UNLIKE, (TWO, ONE)),
            price_row(WIDE, UNLIKE, (TWO, ONE)), least_cost(WIDE, ALL_ONE, (TWO, ONE)),
        ]
        want = [(5, 1), ((1, 1), (0, 1), (1, 1), (0, 1)), ((2, 1), (1, 1)), (2, 1)]
        self.assertTrue(same(got, want), got)
        want = (((1, 1), (0, 1), (1, 1), (0, 1)), ((0, 1), (0, 1), (3, 2), (1, 2)))
        self.assertTrue(same(cheapest_corners(WIDE, ALL_ONE, (TWO, ONE)), want))

    def _refuses(self, table, amounts, sums):
        for function in OF_SUMS:
            with self.assertRaises(NoRow) as caught:
                function(table, amounts, sums)
            self.assertIs(type(caught.exception), NoRow)

    def _check(self, table, amounts, sums):
        """All answers for sums that some row has."""
        corners = searched_corners(table, amounts, sums)
        self.assertTrue(same(cheapest_corners(table, amounts, sums), corners), (table, amounts, sums))
        self.assertIn(cheapest_row(table, amounts, sums), corners)
        cost = plain_cost(amounts, corners[0])
        self.assertTrue(same(least_cost(table, amounts, sums), pair(cost)))
        prices = price_row(table, amounts, sums)
        self.assertTrue(is_told_row(prices, len(table)))
        for product, amount in zip(plain_products(table, prices), numbers_of(amounts)):
            self.assertLessEqual(abs(product), amount, (table, amounts, sums))
        self.assertEqual(sum(a * b for a, b in zip(numbers_of(prices), numbers_of(sums))), cost)
        return corners

    def test_sums_of_rows(self):
        for seed, (table, amounts) in enumerate(cases(many_tables() + small_tables(21, 60))):
            for times in range(2):
                row = random_row(2 * seed + times, len(table[0]))
                self._check(table, amounts, row_of(*plain_sums(table, row)))

    def test_any_sums(self):
        refused = 0
        for seed, (table, amounts) in enumerate(cases(many_tables(), 1)):
            sums = random_row(seed, len(table))
            if some_row_has(table, sums):
                self._check(table, amounts, sums)
            else:
                self._refuses(table, amounts, sums)
                refused += 1
        self.assertGreater(refused, 20)

    def test_sums_of_noughts(self):
        for table, amounts in cases(many_tables()):
            noughts = (NIL,) * len(table[0])
            self.assertTrue(same(self._check(table, amounts, (NIL,) * len(table)), (noughts,)))
            self.assertTrue(same(least_cost(table, amounts, (NIL,) * len(table)), NIL))

    def test_sums_that_no_row_has(self):
        self._refuses(table_of([1, 1], [2, 2]), ones(2), row_of(1, 1))
        self._refuses(table_of([0]), ones(1), (ONE,))
        self._refuses(table_of([0, 0], [1, 2]), ones(2), row_of(1, 0))
        self._refuses(table_of([1], [1], [1]), ones(1), row_of(1, 1, 2))
        self._refuses(table_of([1, 2], [LONG, 2 * LONG]), ones(2), row_of(1, LONG + 1))
        self._check(table_of([1, 2], [LONG, 2 * LONG]), ones(2), row_of(1, LONG))

    def test_several_cheapest_rows(self):
        table = table_of([1, 1, 1])
        self.assertTrue(same(
            cheapest_corners(table, ones(3), (TWO,)), (row_of(2, 0, 0), row_of(0, 2, 0), row_of(0, 0, 2)),
        ))
        self.assertTrue(same(cheapest_corners(table, row_of(1, 2, 1), (TWO,)), (row_of(2, 0, 0), row_of(0, 0, 2))))
        self.assertTrue(same(cheapest_corners(table, row_of(3, 2, 4), (TWO,)), (row_of(0, 2, 0),)))
        self.assertTrue(same(
            cheapest_corners(table_of([1, -1]), ones(2), (HALF,)),
            (row_of(Fraction(1, 2), 0), row_of(0, Fraction(-1, 2))),
        ))

    def test_corners_are_told_by_their_own_lots(self):
        table = table_of([1, 1, 0, 1], [0, 1, 1, 2])
        told = cheapest_corners(table, row_of(1, 2, 1, 3), row_of(1, 1))
        self.assertEqual([lot_of(row) for row in told], [(0, 2), (0, 3), (1,)])
        table = table_of([1, 0, 1, Fraction(1, 2)], [0, 1, 1, Fraction(1, 2)])
        told = cheapest_corners(table, row_of(1, 1, 2, 1), row_of(1, 1))
        self.assertEqual([lot_of(row) for row in told], [(0, 1), (2,), (3,)])
        table = table_of([1, 1, 1], [0, 0, 1])
        told = cheapest_corners(table, row_of(1, 1, 1), row_of(2, 1))
        self.assertEqual([lot_of(row) for row in told], [(0, 2), (1, 2)])

    def test_each_corner_costs_the_same_and_the_mean_of_all_too(self):
        several = 0
        for table, amounts in cases(small_tables(22, 60)):
            sums = row_of(*plain_sums(table, random_row(5, len(table[0]))))
            corners = cheapest_corners(table, amounts, sums)
            lots = [lot_of(row) for row in corners]
            self.assertEqual(lots, sorted(set(lots)))
            for row in corners:
                self.assertEqual(rank_on(table, lot_of(row)), len(lot_of(row)))
            several += len(corners) > 1
            total = [sum(numbers) for numbers in zip(*[numbers_of(row) for row in corners])]
            mean = row_of(*[number / len(corners) for number in total])
            self.assertEqual(row_of(*plain_sums(table, mean)), sums)
            self.assertIs(is_cheapest(table, amounts, mean), True)
            self.assertIs(is_only_cheapest(table, amounts, mean), len(corners) == 1)
        self.assertGreater(several, 5)

    def test_prices_tell_which_rows_are_cheapest(self):
        for seed, (table, amounts) in enumerate(cases(small_tables(23, 60))):
            row = random_row(seed, len(table[0]))
            prices = price_row(table, amounts, row_of(*plain_sums(table, row)))
            want = True
            for product, amount, number in zip(plain_products(table, prices), numbers_of(amounts), numbers_of(row)):
                if number != 0 and product != (amount if number > 0 else -amount):
                    want = False
            self.assertIs(is_cheapest(table, amounts, row), want)

    def test_rows_of_noughts_and_more_rows_than_the_rank(self):
        table = table_of([1, 2, 3], [0, 0, 0], [2, 4, 6], [0, 1, 1], [0, 1, 1], [1, 1, 2])
        for row in (row_of(1, 0, 0), row_of(1, 1, 1), row_of(0, -2, 5), row_of(0, 0, 0)):
            self._check(table, row_of(1, 2, 3), row_of(*plain_sums(table, row)))
        self._refuses(table, row_of(1, 2, 3), row_of(1, 1, 2, 0, 0, 1))

    def test_amounts_scale_the_cost(self):
        sums = row_of(2, 1)
        more = row_of(*[Fraction(5, 7) * number for number in numbers_of(UNLIKE)])
        self.assertTrue(same(least_cost(WIDE, more, sums), (25, 7)))
        self.assertTrue(same(price_row(WIDE, more, sums), ((10, 7), (5, 7))))

    def test_long_numbers(self):
        for seed, (height, many) in enumerate(((1, 3), (2, 4), (3, 6), (4, 3))):
            table = long_numbers_table(seed, height, many)
            for amounts in (ones(many), long_amounts(many)):
                sums = row_of(*plain_sums(table, random_row(seed, many)))
                self._check(table, amounts, sums)
                self._check(table, amounts, row_of(*[number * LONG for number in numbers_of(sums)]))

    def test_what_is_told_may_be_passed(self):
        for table in (WIDE, long_numbers_table(3, 2, 4)):
            sums = sums_of(table, row_of(1, -2, 3, 1))
            prices = price_row(table, long_amounts(4), sums)
            corner = cheapest_row(table, long_amounts(4), sums)
            self._check((corner, prices + prices), long_amounts(4), sums_of((corner, prices + prices), corner))
            self._check(cheapest_corners(table, long_amounts(4), sums), ones(4), (least_cost(table, ones(4), sums),))
            self.assertIs(is_cheapest(table, long_amounts(4), corner), True)
            self.assertTrue(same(sums_of(table, corner), sums))

    def test_by_name(self):
        for function in OF_SUMS:
            told = function(WIDE, UNLIKE, (TWO, ONE))
            self.assertTrue(same(function(sums=(TWO, ONE), amounts=UNLIKE, table=WIDE), told))
            self.assertTrue(same(function(WIDE, sums=(TWO, ONE), amounts=UNLIKE), told))
            with self.assertRaises(NoRow):
                function(sums=(ONE, ONE), amounts=(ONE, ONE), table=table_of([1, 1], [2, 2]))

    def test_equal_calls(self):
        for function in OF_SUMS:
            first = function(WIDE, ALL_ONE, (TWO, ONE))
            function(STEPS, ALL_ONE, (TWO, ONE, ONE))
            self.assertTrue(same(function(tuple(list(WIDE)), tuple(list(ALL_ONE)), tuple([TWO, ONE])), first))


class RowsTest(unittest.TestCase):
    """The functions that are given a row."""

    def test_examples(self):
        got = [
            is_cheapest(WIDE, ALL_ONE, FEW), is_only_cheapest(WIDE, ALL_ONE, FEW), showing_row(WIDE, ALL_ONE, FEW),
            showing_row(WIDE, UNLIKE, FEW), cheaper_dependence(WIDE, UNLIKE, FEW),
            is_cheapest(WIDE, ALL_ONE, (THREE, NIL, NIL, LESS)),
        ]
        self.assertTrue(same(got, [True, False, None, ((2, 1), (1, 1)), None, False]), got)

    def _check(self, table, amounts, row):
        """All answers for a row; whether it is cheapest, and the only one."""
        sums = row_of(*plain_sums(table, row))
        corners = searched_corners(table, amounts, sums)
        cost = plain_cost(amounts, row)
        cheapest = cost == plain_cost(amounts, corners[0])
        only = cheapest and len(corners) == 1
        self.assertIs(is_cheapest(table, amounts, row), cheapest, (table, amounts, row))
        self.assertIs(is_only_cheapest(table, amounts, row), only, (table, amounts, row))
        rises = [rise(amounts, row, along) for along in both_ways(table)]
        self.assertEqual(cheapest, all(number >= 0 for number in rises))
        self.assertEqual(only, all(number > 0 for number in rises))
        self._check_showing(table, amounts, row, only)
        self._check_cheaper(table, amounts, row, cheapest, only)
        return cheapest, only

    def _check_showing(self, table, amounts, row, only):
        prices = showing_row(table, amounts, row)
        if not only:
            self.assertIsNone(prices)
            return
        self.assertTrue(is_told_row(prices, len(table)))
        parts = zip(plain_products(table, prices), numbers_of(amounts), numbers_of(row))
        for product, amount, number in parts:
            if number == 0:
                self.assertLess(abs(product), amount, (table, amounts, row))
            else:
                self.assertEqual(product, amount if number > 0 else -amount, (table, amounts, row))

    def _check_cheaper(self, table, amounts, row, cheapest, only):
        along = cheaper_dependence(table, amounts, row)
        if only:
            self.assertIsNone(along)
            return
        self.assertTrue(is_told_row(along, len(table[0])))
        self.assertIs(is_dependence(table, along), True)
        cost, other = plain_cost(amounts, row), plain_cost(amounts, row_plus(row, along))
        self.assertLessEqual(other, cost, (table, amounts, row))
        if not cheapest:
            self.assertLess(other, cost, (table, amounts, row))

    def test_any_rows(self):
        seen = {}
        for seed, (table, amounts) in enumerate(cases(many_tables() + small_tables(24, 60))):
            told = self._check(table, amounts, random_row(3 * seed, len(table[0])))
            seen[told] = seen.get(told, 0) + 1
        self.assertEqual(sorted(seen), [(False, False), (True, False), (True, True)])
        self.assertGreater(min(seen.values()), 5)

    def test_rows_with_few_numbers(self):
        for table, amounts in cases(small_tables(25, 10)):
            for place in range(len(table[0])):
                row = tuple(((-1) ** place * 3, 2) if k == place else NIL for k in range(len(table[0])))
                self._check(table, amounts, row)

    def test_corners(self):
        for seed, (table, amounts) in enumerate(cases(small_tables(26, 40))):
            sums = row_of(*plain_sums(table, random_row(seed, len(table[0]))))
            corners = cheapest_corners(table, amounts, sums)
            for row in corners[:4]:
                self.assertEqual(self._check(table, amounts, row), (True, len(corners) == 1))

    def test_noughts_are_the_only_cheapest_row(self):
        for table, amounts in cases(many_tables(), 1):
            self.assertEqual(self._check(table, amounts, (NIL,) * len(table[0])), (True, True))

    def test_without_a_dependence_each_row_is_the_only_one(self):
        for table in (identity(3), identity(6), table_of([2]), table_of([1, 2], [2, 4], [3, 7])):
            for seed in range(5):
                for amounts in (ones(len(table[0])), random_amounts(seed, len(table[0]))):
                    self.assertEqual(self._check(table, amounts, random_row(seed, len(table[0]))), (True, True))

    def test_a_number_over_a_column_of_noughts_is_for_nothing(self):
        table = table_of([0, 1])
        self.assertEqual(self._check(table, ones(2), row_of(2, 0)), (False, False))
        self.assertEqual(self._check(table, ones(2), row_of(0, 2)), (True, True))
        self.assertEqual(self._check(table, ones(2), row_of(Fraction(-1, LONG), 1)), (False, False))

    def test_a_lot_that_is_not_free_may_have_prices_and_does_not_come_back(self):
        table = table_of([1, 0, 1], [0, 1, 1])
        self.assertEqual(self._check(table, row_of(1, 1, 2), row_of(1, 1, 1)), (True, False))
        self.assertEqual(plain_products(table, row_of(1, 1)), [1, 1, 2])
        self.assertIsNone(showing_row(table, row_of(1, 1, 2), row_of(1, 1, 1)))
        self.assertEqual(self._check(table_of([1, 1]), ones(2), row_of(1, 2)), (True, False))
        self.assertEqual(self._check(table_of([1, 1]), ones(2), row_of(1, -2)), (False, False))

    def test_cheapest_by_a_hair(self):
        table = table_of([1, 1])
        more = row_of(1, Fraction(LONG + 1, LONG))
        self.assertEqual(self._check(table, more, row_of(1, 0)), (True, True))
        self.assertEqual(self._check(table, more, row_of(0, 1)), (False, False))
        self.assertEqual(self._check(table, more, row_of(LONG, Fraction(1, LONG))), (False, False))
        self.assertEqual(self._check(table, ones(2), row_of(0, 1)), (True, False))

    def test_only_the_signs_matter(self):
        for table, amounts in cases(small_tables(27, 30)):
            for seed in range(4):
                row = random_row(seed, len(table[0]))
                other = row_of(*[number * (seed + place + 1) for place, number in enumerate(numbers_of(row))])
                for function in (is_cheapest, is_only_cheapest):
                    self.assertIs(function(table, amounts, row), function(table, amounts, other))

    def test_a_small_number_stops_a_dependence(self):
        table = table_of([1, 1, 1])
        row = row_of(Fraction(1, LONG), Fraction(-1, 3), LONG)
        self.assertEqual(self._check(table, ones(3), row), (False, False))
        self.assertEqual(self._check(table, row_of(3, 2, 1), row), (False, False))
        self._check(STEPS, ALL_ONE, row_of(Fraction(1, LONG), LONG, Fraction(-1, 7), -3))

    def test_long_numbers(self):
        for seed, (height, many) in enumerate(((1, 3), (2, 4), (3, 6), (5, 6))):
            table = long_numbers_table(seed, height, many)
            for amounts in (ones(many), long_amounts(many)):
                for times in range(3):
                    row = row_of(*[number * LONG for number in numbers_of(random_row(seed + times, many))])
                    self._check(table, amounts, row)

    def test_what_is_told_may_be_passed(self):
        for table, amounts in ((WIDE, ALL_ONE), (long_numbers_table(4, 3, 5), long_amounts(5))):
            for along in least_dependences(table)[:3]:
                self.assertEqual(self._check(table, amounts, along), (False, False))
                self._check(table, amounts, cheaper_dependence(table, amounts, along))
            row = (ONE,) + (NIL,) * (len(amounts) - 1)
            prices = showing_row(table, amounts, row)
            if prices is not None:
                self._check((prices,) * 2, ones(len(prices)), prices)

    def test_by_name(self):
        for function in (is_cheapest, is_only_cheapest, showing_row, cheaper_dependence):
            for amounts in (ALL_ONE, UNLIKE):
                told = function(WIDE, amounts, FEW)
                self.assertTrue(same(function(row=FEW, amounts=amounts, table=WIDE), told))
                self.assertTrue(same(function(WIDE, row=FEW, amounts=amounts), told))

    def test_equal_calls(self):
        for function in (is_cheapest, is_only_cheapest, showing_row, cheaper_dependence):
            for row in (FEW, (THREE, NIL, NIL, LESS)):
                first = function(WIDE, UNLIKE, row)
                function(STEPS, ALL_ONE, row)
                self.assertTrue(same(function(tuple(list(WIDE)), tuple(list(UNLIKE)), tuple(list(row))), first))


class PlacesTest(unittest.TestCase):
    def test_defined_in_the_file_of_cheapest(self):
        for function in OF_SUMS + (is_cheapest, is_only_cheapest, showing_row, cheaper_dependence):
            self.assertEqual(function.__module__, "fewtold.cheapest")

    def test_the_special_tables(self):
        for table in SPECIAL:
            amounts = ones(len(table[0]))
            for row in (amounts, tuple((-1, 1) if k else TWO for k in range(len(amounts)))):
                self.assertIs(is_cheapest(table, amounts, cheapest_row(table, amounts, sums_of(table, row))), True)


if __name__ == "__main__":
    unittest.main()
