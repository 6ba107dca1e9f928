"""Rows from 0 on: the only ones and the cheapest with their sums, facing rows, and powers."""

import unittest
from fractions import Fraction

from fewtold.above import (
    cheap_dependence, facing_row, is_back_above, is_lot_above, is_only_above, low_dependence, most_above,
    most_back_above, power_table,
)
from fewtold.dependences import is_dependence, least_dependences
from fewtold.tables import is_table
from tests.reckoning import (
    both_ways, cases, long_amounts, long_numbers_table, number_below, ones, opposite, plain_cost, plain_products,
    random_amounts, random_lots, row_plus, small_tables,
)
from tests.support import (
    LESS, LONG, NIL, ONE, SPECIAL, STEPS, THREE, TWO, WIDE, identity, is_told_row, lot_of, lots_of, many_tables,
    numbers_of, pair, plain_sums, rank_on, row_of, same, table_of,
)

LINE = table_of([1, 1, 1], [0, 1, 2])
PLAIN, DEAR = (ONE, ONE, ONE), (TWO, ONE, ONE)


def signed_cost(amounts, row):
    return sum(a * b for a, b in zip(numbers_of(amounts), numbers_of(row)))


def from_nought_on(row, lot=()):
    """Whether a row is from 0 on at each place off a lot."""
    return all(number[0] >= 0 for place, number in enumerate(row) if place not in lot)


def part_above(row):
    return tuple(number if number[0] > 0 else NIL for number in row)


class AboveTest(unittest.TestCase):
    def test_examples(self):
        line = power_table((NIL, ONE, TWO), 2)
        got = [line, most_above(line), is_only_above(line, 1), low_dependence(line, 0), low_dependence(line, 1)]
        want = [(((1, 1), (1, 1), (1, 1)), ((0, 1), (1, 1), (2, 1))), 0, False, None, ((1, 1), (-2, 1), (1, 1))]
        self.assertTrue(same(got, want), got)
        got = [
            most_above(power_table((NIL, ONE, TWO, THREE), 3)), most_above(power_table((TWO, ONE), 2)),
            most_above(((ONE, LESS),)),
        ]
        self.assertTrue(same(got, [1, 2, None]), got)
        got = [
            is_lot_above(line, (0,)), is_lot_above(line, (1,)), is_lot_above(line, (0, 1)), facing_row(line, (1,)),
            facing_row(line, (0, 1)),
        ]
        self.assertTrue(same(got, [True, False, False, None, None]), got)
        got = [
            is_back_above(line, PLAIN, 1), is_back_above(line, DEAR, 1), most_back_above(line, PLAIN),
            most_back_above(line, DEAR), cheap_dependence(line, PLAIN, 1),
        ]
        self.assertTrue(same(got, [False, True, 0, 1, ((1, 1), (-2, 1), (1, 1))]), got)

    def _check_multiple(self, table, rows, told, count):
        """A least dependence or an opposite, times an amount, with so few numbers below 0."""
        self.assertTrue(is_told_row(told, len(table[0])))
        self.assertIs(is_dependence(table, told), True)
        self.assertIn(lot_of(told), [lot_of(row) for row in rows])
        self.assertLessEqual(number_below(told), count)

    def _check(self, table, amounts):
        """All that is told for each count."""
        rows = both_ways(table)
        below = [number_below(row) for row in rows]
        below_if_cheap = [number_below(row) for row in rows if signed_cost(amounts, row) <= 0]
        many = len(table[0])
        only, back = [], []
        for count in range(9):
            low, cheap = min(below, default=9) <= count, min(below_if_cheap, default=9) <= count
            self.assertIs(is_only_above(table, count), not low, (table, count))
            self.assertIs(is_back_above(table, amounts, count), not cheap, (table, amounts, count))
            told = low_dependence(table, count)
            self.assertEqual(told is None, not low)
            if low:
                self._check_multiple(table, rows, told, count)
            told = cheap_dependence(table, amounts, count)
            self.assertEqual(told is None, not cheap)
            if cheap:
                self._check_multiple(table, rows, told, count)
                self.assertLessEqual(signed_cost(amounts, told), 0)
            only += [count] if not low and count <= many else []
            back += [count] if not cheap and count <= many else []
        self.assertTrue(same(most_above(table), max(only, default=None)), table)
        self.assertTrue(same(most_back_above(table, amounts), max(back)), (table, amounts))

    def test_any_tables(self):
        for table, amounts in cases(many_tables()):
            self._check(table, amounts)

    def test_tables_with_small_numbers(self):
        for table, amounts in cases(small_tables(51, 80), 1):
            self._check(table, amounts)

    def test_without_a_dependence(self):
        for table in (identity(1), identity(6), table_of([3]), table_of([1, 2], [2, 4], [3, 7])):
            many = len(table[0])
            amounts = random_amounts(2, many)
            self.assertTrue(same(most_above(table), many))
            self.assertTrue(same(most_back_above(table, amounts), many))
            for count in range(9):
                self.assertIs(is_only_above(table, count), True)
                self.assertIs(is_back_above(table, amounts, count), True)
                self.assertIsNone(low_dependence(table, count))
                self.assertIsNone(cheap_dependence(table, amounts, count))

    def test_a_dependence_from_nought_on(self):
        for table in (table_of([0]), table_of([1, -1]), table_of([0, 1, 2]), table_of([1, 2, -1, 3], [0, 0, 0, 1])):
            many = len(table[0])
            self.assertIsNone(most_above(table))
            for count in range(9):
                self.assertIs(is_only_above(table, count), False)
                self.assertIsNotNone(low_dependence(table, count))
            self.assertTrue(from_nought_on(low_dependence(table, 0)))
            self.assertIs(is_back_above(table, ones(many), 0), True)
            self.assertIs(is_back_above(table, ones(many), many), False)

    def test_counts_above_the_columns_are_as_all(self):
        for table in (LINE, WIDE, STEPS, identity(2), table_of([1])):
            many = len(table[0])
            for count in range(many, 9):
                self.assertIs(is_only_above(table, count), is_only_above(table, many))
                self.assertIs(is_back_above(table, ones(many), count), is_back_above(table, ones(many), many))

    def test_two_rows_from_nought_on_with_the_same_sums(self):
        for table in small_tables(52, 60):
            for count in range(4):
                told = low_dependence(table, count)
                if told is not None:
                    one, other = part_above(opposite(told)), part_above(told)
                    self.assertLessEqual(len(lot_of(one)), count)
                    self.assertNotEqual(one, other)
                    self.assertEqual(plain_sums(table, one), plain_sums(table, other))

    def test_two_rows_of_which_the_one_with_few_numbers_does_not_cost_less(self):
        for table, amounts in cases(small_tables(53, 60)):
            for count in range(4):
                told = cheap_dependence(table, amounts, count)
                if told is not None:
                    one, other = part_above(opposite(told)), part_above(told)
                    self.assertLessEqual(len(lot_of(one)), count)
                    self.assertNotEqual(one, other)
                    self.assertEqual(plain_sums(table, one), plain_sums(table, other))
                    self.assertGreaterEqual(plain_cost(amounts, one), plain_cost(amounts, other))

    def test_sums_of_costs_that_are_just_nought(self):
        self.assertIs(is_back_above(LINE, PLAIN, 1), False)
        self.assertIs(is_back_above(LINE, row_of(1, Fraction(LONG - 1, LONG), 1), 1), True)
        self.assertIs(is_back_above(LINE, row_of(1, Fraction(LONG + 1, LONG), 1), 1), False)
        self.assertIs(is_back_above(LINE, DEAR, 2), False)
        self.assertTrue(same(cheap_dependence(LINE, DEAR, 2), row_of(-1, 2, -1)))
        self.assertIsNone(cheap_dependence(LINE, DEAR, 1))

    def test_long_numbers(self):
        for seed, (height, many) in enumerate(((1, 3), (2, 4), (3, 5), (4, 6))):
            self._check(long_numbers_table(seed, height, many), long_amounts(many))


class LotsAboveTest(unittest.TestCase):
    def _check(self, table, lot):
        """What is told of a lot; whether its rows are the only ones."""
        above = not any(from_nought_on(row, lot) for row in both_ways(table))
        self.assertIs(is_lot_above(table, lot), above, (table, lot))
        prices = facing_row(table, lot)
        self.assertEqual(prices is None, not above, (table, lot))
        if above:
            self.assertEqual(rank_on(table, lot), len(lot))
            self.assertTrue(is_told_row(prices, len(table)))
            for place, number in enumerate(plain_products(table, prices)):
                self.assertTrue(number == 0 if place in lot else number > 0, (table, lot, prices))
        else:
            row = [row for row in both_ways(table) if from_nought_on(row, lot)][0]
            start = row_of(*[1000 if place in lot else 0 for place in range(len(row))])
            step = row_of(*[number / 1000 for number in numbers_of(row)])
            self.assertNotEqual(start, row_plus(start, step))
            self.assertEqual(plain_sums(table, start), plain_sums(table, row_plus(start, step)))
        return above

    def test_any_lots(self):
        seen = {True: 0, False: 0}
        for seed, table in enumerate(many_tables() + small_tables(54, 100)):
            for lot in random_lots(seed, len(table[0]), 4):
                seen[self._check(table, lot)] += 1
        self.assertGreater(min(seen.values()), 50)

    def test_all_lots_of_some_tables(self):
        tables = (LINE, WIDE, STEPS, power_table(row_of(-2, 0, 1, 3, 5, 7), 5), table_of([1, 1, 1, 0], [0, 1, 2, 0]))
        for table in tables:
            for lot in lots_of(len(table[0])):
                self._check(table, lot)

    def test_no_places_and_all_places(self):
        for table in many_tables():
            many = len(table[0])
            self._check(table, ())
            lot = tuple(range(many))
            free = rank_on(table, lot) == many
            self.assertIs(is_lot_above(table, lot), free)
            prices = facing_row(table, lot)
            if free:
                self.assertTrue(is_told_row(prices, len(table)))
                self.assertFalse(any(plain_products(table, prices)))
            else:
                self.assertIsNone(prices)

    def test_without_a_dependence(self):
        for table in (identity(3), identity(6), table_of([1, 2], [2, 4], [3, 7])):
            for lot in lots_of(len(table[0]), 3):
                self.assertIs(self._check(table, lot), True)

    def test_a_column_of_noughts(self):
        table = table_of([0, 1], [0, 2])
        for lot in lots_of(2):
            self.assertIs(self._check(table, lot), False)

    def test_a_dependence_on_the_lot_alone(self):
        table = table_of([1, 1, 0], [2, 2, 0], [0, 0, 1])
        self.assertIs(self._check(table, (0, 1)), False)
        self.assertIs(self._check(table, (0, 1, 2)), False)
        self.assertIs(self._check(table, (2,)), True)

    def test_if_for_a_lot_so_for_each_part_of_it(self):
        for seed, table in enumerate(small_tables(55, 60)):
            for lot in random_lots(seed, len(table[0]), 4):
                if is_lot_above(table, lot):
                    for place in lot:
                        self.assertIs(is_lot_above(table, tuple(k for k in lot if k != place)), True)

    def test_only_above_if_for_all_lots(self):
        for table in small_tables(56, 40):
            many = len(table[0])
            for count in range(4):
                lots = [lot for lot in lots_of(many, count)]
                self.assertIs(is_only_above(table, count), all(is_lot_above(table, lot) for lot in lots))

    def test_faces_that_are_hardly_there(self):
        table = table_of([1, 1, 1], [0, 1, Fraction(LONG + 1, LONG)])
        for lot in lots_of(3):
            self._check(table, lot)
        self.assertIs(is_lot_above(table_of([1, 1, 1], [0, 1, 1]), (0, 1)), False)
        self.assertIs(self._check(table_of([1, 1, 1], [0, Fraction(1, LONG), LONG]), (2,)), True)

    def test_long_numbers(self):
        for seed, (height, many) in enumerate(((2, 3), (3, 4), (4, 6), (5, 6))):
            table = (ones(many),) + long_numbers_table(seed, height - 1, many)
            for lot in lots_of(many, 2):
                self._check(table, lot)

    def test_what_is_told_may_be_passed(self):
        table = (ones(4),) + long_numbers_table(6, 1, 4)
        prices = facing_row(table, ())
        self._check((prices,), (0,))
        self._check((low_dependence(table, 8), cheap_dependence(table, long_amounts(4), 8)), (1,))
        self._check(power_table(prices, 6), (0,))


class PowersTest(unittest.TestCase):
    def test_the_numbers(self):
        places = row_of(-2, 0, Fraction(1, 3), 1, Fraction(-5, 2), 7, LONG, Fraction(1, LONG))
        for many in range(1, 7):
            for most in range(1, 9):
                told = power_table(places[:most], many)
                want = [[number ** power for number in numbers_of(places[:most])] for power in range(many)]
                self.assertTrue(same(told, table_of(*want)), (most, many))
                self.assertIs(is_table(told), True)

    def test_more_and_fewer_rows_than_places(self):
        self.assertTrue(same(power_table((NIL,), 6), table_of([1], [0], [0], [0], [0], [0])))
        self.assertTrue(same(power_table((THREE,), 3), table_of([1], [3], [9])))
        self.assertTrue(same(power_table((TWO, LESS), 1), table_of([1, 1])))

    def test_dependences_of_powers(self):
        for places in ((0, 1, 2, 3, 4, 5, 6), (5, -1, Fraction(1, 2), 3, -7), (1, 2), (-1, 4, 2, LONG)):
            for many in range(1, 7):
                table = power_table(row_of(*places), many)
                if len(places) <= many:
                    self.assertEqual(least_dependences(table), ())
                    self.assertTrue(same(most_above(table), len(places)))
                    continue
                order = sorted(range(len(places)), key=lambda place: places[place])
                lots = [lot for lot in lots_of(len(places), many + 1) if len(lot) == many + 1]
                self.assertEqual([lot_of(row) for row in least_dependences(table)], sorted(lots))
                for row in least_dependences(table):
                    signs = [row[place][0] > 0 for place in order if row[place] != NIL]
                    self.assertTrue(all(one != other for one, other in zip(signs, signs[1:])))
                self.assertTrue(same(most_above(table), (many - 1) // 2))

    def test_what_is_told_may_be_places(self):
        row = least_dependences(long_numbers_table(7, 2, 3))[0]
        told = power_table(row, 4)
        want = [[number ** power for number in numbers_of(row)] for power in range(4)]
        self.assertTrue(same(told, table_of(*want)))
        self.assertTrue(same(power_table((told[3][1],), 2), (((1, 1),), (pair(Fraction(*told[3][1])),))))


class CallsTest(unittest.TestCase):
    ALL = (
        (is_only_above, {"table": LINE, "count": 1}), (most_above, {"table": LINE}),
        (low_dependence, {"table": LINE, "count": 1}), (is_lot_above, {"table": LINE, "lot": (0,)}),
        (facing_row, {"table": LINE, "lot": (0,)}), (is_back_above, {"table": LINE, "amounts": DEAR, "count": 1}),
        (most_back_above, {"table": LINE, "amounts": DEAR}),
        (cheap_dependence, {"table": LINE, "amounts": DEAR, "count": 2}),
        (power_table, {"places": (NIL, THREE), "many": 3}),
    )

    def test_by_name(self):
        for function, named in self.ALL:
            told = function(*named.values())
            backwards = {name: named[name] for name in reversed(list(named))}
            self.assertTrue(same(function(**backwards), told))
            first, *rest = named.items()
            self.assertTrue(same(function(first[1], **dict(rest)), told))

    def test_equal_calls(self):
        for function, named in self.ALL:
            first = function(**named)
            most_above(STEPS)
            power_table((ONE,), 2)
            again = {name: tuple(list(value)) if type(value) is tuple else value for name, value in named.items()}
            self.assertTrue(same(function(**again), first))

    def test_the_special_tables(self):
        for table in SPECIAL:
            self.assertEqual(low_dependence(table, 8) is None, least_dependences(table) == ())

    def test_defined_in_the_file_of_above(self):
        for function, _ in self.ALL:
            self.assertEqual(function.__module__, "fewtold.above")


if __name__ == "__main__":
    unittest.main()
