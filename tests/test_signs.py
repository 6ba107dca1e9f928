"""Signs and lots that come back, and their shares."""

import random
import unittest
from fractions import Fraction
from itertools import combinations, product

from fewtold.back import is_back, share
from fewtold.cheapest import is_only_cheapest
from fewtold.signs import is_lot_back, is_signed_back, lost_row, lot_share, lots_back, signed_back, signed_share
from tests.reckoning import (
    cases, long_amounts, long_numbers_table, on_and_off, ones, plain_cost, plain_products, quotient, random_amounts,
    random_lots, row_plus, searched_corners, signed_and_off, small_tables,
)
from tests.support import (
    LONG, NIL, ONE, SPECIAL, STEPS, THREE, TWO, WIDE, identity, is_told_row, lot_of, lots_of, many_tables, numbers_of,
    plain_sums, rank_on, row_of, same, searched_least, table_of,
)

ALL_ONE, UNLIKE = (ONE,) * 4, (TWO, TWO, THREE, THREE)


def random_signs(seed, many, times):
    source = random.Random(seed)
    return [tuple(source.choice((-1, 0, 0, 1)) for _ in range(many)) for _ in range(times)]


def row_with(signs):
    return row_of(*signs)


def all_signs(lot, many):
    """All signs with just this lot."""
    found = []
    for chosen in product((-1, 1), repeat=len(lot)):
        signs = [0] * many
        for place, sign in zip(lot, chosen):
            signs[place] = sign
        found.append(tuple(signs))
    return found


class SignsTest(unittest.TestCase):
    def test_examples(self):
        got = [
            is_signed_back(WIDE, UNLIKE, (1, 0, 1, 0)), is_signed_back(WIDE, UNLIKE, (1, 0, -1, 0)),
            signed_share(WIDE, UNLIKE, (1, 0, 1, 0)), signed_share(WIDE, UNLIKE, (1, 0, -1, 0)),
            signed_share(WIDE, UNLIKE, (1, 1, 1, 0)),
        ]
        self.assertTrue(same(got, [True, False, (1, 2), (5, 2), None]), got)
        got = [
            signed_back(WIDE, UNLIKE, (0, 2)), signed_back(WIDE, UNLIKE, (2, 3)), signed_back(WIDE, UNLIKE, ()),
            is_lot_back(WIDE, UNLIKE, (0,)), is_lot_back(WIDE, UNLIKE, (2, 3)), lot_share(WIDE, UNLIKE, (0,)),
            lot_share(WIDE, UNLIKE, (2, 3)), lost_row(WIDE, UNLIKE, (0,)),
        ]
        self.assertTrue(same(got, [2, 0, 1, True, False, (2, 3), (3, 2), None]), got)
        got = [
            lots_back(WIDE, UNLIKE, 0), lots_back(WIDE, UNLIKE, 1), lots_back(WIDE, UNLIKE, 2),
            lots_back(WIDE, ALL_ONE, 1), lots_back(WIDE, ALL_ONE, 8),
        ]
        self.assertTrue(same(got, [1, 4, 0, 2, 0]), got)

    def _check(self, table, amounts, signs):
        """All that is told of signs; whether they come back."""
        least = searched_least(table)
        lot = lot_of(row_with(signs))
        free = rank_on(table, lot) == len(lot)
        pairs = [signed_and_off(amounts, row, signs) for row in least]
        back = all(signed < elsewhere for signed, elsewhere in pairs)
        self.assertIs(is_signed_back(table, amounts, signs), back, (table, amounts, signs))
        told = signed_share(table, amounts, signs)
        self.assertTrue(same(told, quotient(pairs)), (table, amounts, signs))
        self.assertEqual(told is None, not free)
        self.assertEqual(back, free and Fraction(*told) < 1)
        return back

    def test_any_signs(self):
        seen = {True: 0, False: 0}
        for seed, (table, amounts) in enumerate(cases(many_tables() + small_tables(31, 40))):
            for signs in random_signs(seed, len(table[0]), 3):
                seen[self._check(table, amounts, signs)] += 1
        self.assertGreater(min(seen.values()), 50)

    def test_rows_with_the_signs_come_back_or_none_does(self):
        for seed, (table, amounts) in enumerate(cases(small_tables(32, 30))):
            many = len(table[0])
            for signs in random_signs(seed, many, 3):
                for factors in ([1] * many, list(range(1, many + 1)), [Fraction(1, 3 + k) for k in range(many)]):
                    row = row_of(*[sign * number for sign, number in zip(signs, factors)])
                    corners = searched_corners(table, amounts, row_of(*plain_sums(table, row)))
                    self.assertIs(is_signed_back(table, amounts, signs), corners == (row,), (table, amounts, row))

    def test_signs_of_noughts(self):
        for table, amounts in cases(many_tables(), 1):
            signs = (0,) * len(table[0])
            self.assertIs(is_signed_back(table, amounts, signs), True)
            self.assertTrue(same(signed_share(table, amounts, signs), NIL))
            self.assertTrue(same(signed_back(table, amounts, ()), 1))
            self.assertIs(is_lot_back(table, amounts, ()), True)
            self.assertTrue(same(lot_share(table, amounts, ()), NIL))
            self.assertIsNone(lost_row(table, amounts, ()))
            self.assertTrue(same(lots_back(table, amounts, 0), 1))

    def test_without_a_dependence(self):
        for table in (identity(1), identity(5), identity(6), table_of([1, 2], [2, 4], [3, 7])):
            many = len(table[0])
            amounts = random_amounts(3, many)
            for signs in random_signs(1, many, 5) + [(1,) * many]:
                self.assertIs(self._check(table, amounts, signs), True)
                self.assertTrue(same(signed_share(table, amounts, signs), NIL))
            for lot in lots_of(many, 3) + [tuple(range(many))]:
                self.assertTrue(same(signed_back(table, amounts, lot), 2 ** len(lot)))
                self.assertIs(is_lot_back(table, amounts, lot), True)
                self.assertTrue(same(lot_share(table, amounts, lot), NIL))
                self.assertIsNone(lost_row(table, amounts, lot))
            for count in range(9):
                size = min(count, many)
                self.assertTrue(same(lots_back(table, amounts, count), len(list(combinations(range(many), size)))))

    def test_opposite_signs_have_the_same_share(self):
        for seed, (table, amounts) in enumerate(cases(small_tables(33, 30))):
            for signs in random_signs(seed, len(table[0]), 3):
                other = tuple(-sign for sign in signs)
                self.assertTrue(same(signed_share(table, amounts, signs), signed_share(table, amounts, other)))
                self.assertIs(is_signed_back(table, amounts, signs), is_signed_back(table, amounts, other))

    def test_signs_with_fewer_places_come_back_too(self):
        for seed, (table, amounts) in enumerate(cases(small_tables(34, 30))):
            for signs in random_signs(seed, len(table[0]), 5):
                if is_signed_back(table, amounts, signs):
                    for place in range(len(signs)):
                        fewer = signs[:place] + (0,) + signs[place + 1:]
                        self.assertIs(is_signed_back(table, amounts, fewer), True)

    def test_the_share_bounds_what_stands_outside_of_the_lot(self):
        for seed, (table, amounts) in enumerate(cases(small_tables(35, 30))):
            for signs in random_signs(seed, len(table[0]), 3):
                if not is_signed_back(table, amounts, signs):
                    continue
                left = 1 - Fraction(*signed_share(table, amounts, signs))
                one = row_with(signs)
                reached = []
                for along in searched_least(table):
                    for factor in (Fraction(1, 10 ** 9), Fraction(-1, 10 ** 9), 1, -2):
                        other = row_plus(one, row_of(*[factor * number for number in numbers_of(along)]))
                        _, outside = on_and_off(amounts, other, lot_of(one))
                        more = plain_cost(amounts, other) - plain_cost(amounts, one)
                        self.assertLessEqual(outside * left, more)
                        reached.append(outside * left == more)
                self.assertTrue(any(reached) or not searched_least(table))

    def test_shares_at_and_above_1(self):
        table = table_of([1, 0, 1], [0, 1, 1])
        self.assertTrue(same(signed_share(table, row_of(1, 1, 2), (1, 1, 0)), ONE))
        self.assertIs(is_signed_back(table, row_of(1, 1, 2), (1, 1, 0)), False)
        self.assertTrue(same(signed_share(table, row_of(1, 1, 2), (1, -1, 0)), NIL))
        self.assertIs(is_signed_back(table, row_of(1, 1, 2), (1, -1, 0)), True)
        self.assertTrue(same(signed_share(table, row_of(1, 1, 1), (-1, -1, 0)), TWO))
        nearly = row_of(1, 1, Fraction(2 * LONG + 1, LONG))
        self.assertIs(is_signed_back(table, nearly, (1, 1, 0)), True)
        self.assertTrue(same(signed_share(table, nearly, (1, 1, 0)), (2 * LONG, 2 * LONG + 1)))

    def test_a_share_of_1_with_a_row_of_prices(self):
        # The row (1, 1) has just the amounts at the lot and elsewhere: it does not show the signs.
        table = table_of([1, 0, 1], [0, 1, 1])
        self.assertEqual(plain_products(table, row_of(1, 1)), [1, 1, 2])
        self.assertIs(is_signed_back(table, row_of(1, 1, 2), (0, 0, 1)), False)
        self.assertTrue(same(signed_share(table, row_of(1, 1, 2), (0, 0, 1)), ONE))

    def test_long_numbers(self):
        for seed, (height, many) in enumerate(((1, 3), (2, 4), (3, 6), (6, 8))):
            table = long_numbers_table(seed, height, many)
            for signs in random_signs(seed, many, 2):
                self._check(table, long_amounts(many), signs)


class LotsTest(unittest.TestCase):
    def _check(self, table, amounts, lot):
        """All that is told of a lot; whether it comes back."""
        many = len(table[0])
        free = rank_on(table, lot) == len(lot)
        pairs = [on_and_off(amounts, row, lot) for row in searched_least(table)]
        back = all(on_lot < elsewhere for on_lot, elsewhere in pairs)
        self.assertIs(is_lot_back(table, amounts, lot), back, (table, amounts, lot))
        told = lot_share(table, amounts, lot)
        self.assertTrue(same(told, quotient(pairs)), (table, amounts, lot))
        self.assertEqual(told is None, not free)
        self._check_lost(table, amounts, lot, back)
        least = searched_least(table)
        signed = [[signed_and_off(amounts, row, signs) for row in least] for signs in all_signs(lot, many)]
        backs = [all(one < other for one, other in found) for found in signed]
        self.assertTrue(same(signed_back(table, amounts, lot), sum(backs)), (table, amounts, lot))
        self.assertEqual(back, all(backs))
        if free:
            self.assertEqual(told, max((quotient(found) for found in signed), key=lambda part: Fraction(*part)))
        return back

    def _check_lost(self, table, amounts, lot, back):
        row = lost_row(table, amounts, lot)
        if back:
            self.assertIsNone(row)
            return
        self.assertTrue(is_told_row(row, len(table[0])))
        self.assertTrue(set(lot_of(row)) <= set(lot))
        corners = searched_corners(table, amounts, row_of(*plain_sums(table, row)))
        self.assertNotEqual(corners, (row,))
        self.assertIs(is_only_cheapest(table, amounts, row), False)

    def test_any_lots(self):
        seen = {True: 0, False: 0}
        for seed, (table, amounts) in enumerate(cases(many_tables() + small_tables(41, 40))):
            for lot in random_lots(seed, len(table[0]), 2):
                seen[self._check(table, amounts, lot)] += 1
        self.assertGreater(min(seen.values()), 30)

    def test_all_lots_of_some_tables(self):
        for table, amounts in ((WIDE, UNLIKE), (WIDE, ALL_ONE), (STEPS, ALL_ONE), (STEPS, row_of(3, 1, 1, 3))):
            for lot in lots_of(4):
                self._check(table, amounts, lot)

    def test_all_columns(self):
        for table in SPECIAL:
            many = len(table[0])
            lot = tuple(range(many))
            free = rank_on(table, lot) == many
            self.assertIs(is_lot_back(table, ones(many), lot), free)
            self.assertTrue(same(lot_share(table, ones(many), lot), NIL if free else None))
            self.assertTrue(same(signed_back(table, ones(many), lot), 2 ** many if free else 0))

    def test_a_column_of_noughts(self):
        table = table_of([0, 1])
        self.assertIs(is_lot_back(table, ones(2), (0,)), False)
        self.assertIsNone(lot_share(table, ones(2), (0,)))
        self.assertTrue(same(signed_back(table, ones(2), (0,)), 0))
        self.assertIs(is_lot_back(table, ones(2), (1,)), True)
        self.assertTrue(same(lot_share(table, ones(2), (1,)), NIL))
        self.assertTrue(same(signed_back(table, ones(2), (1,)), 2))
        self.assertTrue(same(lots_back(table, ones(2), 1), 1))
        self.assertTrue(same(lots_back(table, ones(2), 2), 0))
        self._check_lost(table, ones(2), (0,), False)
        self._check_lost(table, ones(2), (0, 1), False)

    def test_costs_that_are_just_as_great(self):
        table = table_of([1, 0, 1], [0, 1, 1])
        amounts = row_of(1, 1, 2)
        for lot, back in (((2,), False), ((0, 1), False), ((0,), True), ((1,), True)):
            self.assertIs(is_lot_back(table, amounts, lot), back)
            self._check_lost(table, amounts, lot, back)
        self.assertTrue(same(lot_share(table, amounts, (2,)), ONE))
        self.assertTrue(same(lot_share(table, amounts, (0, 1)), ONE))
        self.assertTrue(same(signed_back(table, amounts, (0, 1)), 2))
        self.assertTrue(same(lots_back(table, amounts, 1), 2))

    def test_each_part_of_a_lot_that_comes_back_does(self):
        for seed, (table, amounts) in enumerate(cases(small_tables(42, 30))):
            for lot in random_lots(seed, len(table[0]), 4):
                if is_lot_back(table, amounts, lot):
                    for place in lot:
                        self.assertIs(is_lot_back(table, amounts, tuple(k for k in lot if k != place)), True)

    def test_counts_and_lots(self):
        for table, amounts in cases(small_tables(43, 25)):
            many = len(table[0])
            least = searched_least(table)
            for count in range(9):
                size = min(count, many)
                lots = list(combinations(range(many), size))
                pairs = [[on_and_off(amounts, row, lot) for row in least] for lot in lots]
                want = sum(all(one < other for one, other in found) for found in pairs)
                self.assertTrue(same(lots_back(table, amounts, count), want), (table, amounts, count))
                self.assertIs(is_back(table, amounts, count), want == len(lots))
                shares = [quotient(found) for found in pairs]
                told = None if None in shares else max(shares, key=lambda part: Fraction(*part))
                self.assertTrue(same(share(table, amounts, count), told))

    def test_long_numbers(self):
        for seed, (height, many) in enumerate(((1, 3), (2, 4), (3, 5))):
            table = long_numbers_table(seed, height, many)
            for lot in ((0,), (1, 2), (0, 2)):
                self._check(table, long_amounts(many), lot)
            self.assertIs(lots_back(table, long_amounts(many), many), 0)

    def test_what_is_told_may_be_passed(self):
        table = long_numbers_table(5, 2, 4)
        row = lost_row(table, long_amounts(4), (0, 1, 2))
        self._check((row, long_amounts(4)), ones(4), (0, 3))
        told = lot_share(table, long_amounts(4), (0,))
        self._check(table, (told,) * 4, (1,))
        told = signed_share(table, long_amounts(4), (1, 0, 0, -1))
        self._check(table, (told,) * 4, (1,))


class CallsTest(unittest.TestCase):
    ALL = (
        (is_signed_back, "signs", (1, 0, -1, 0)), (signed_share, "signs", (1, 0, 1, 0)), (signed_back, "lot", (0, 2)),
        (is_lot_back, "lot", (0,)), (lot_share, "lot", (2, 3)), (lost_row, "lot", (2, 3)), (lots_back, "count", 1),
    )

    def test_by_name(self):
        for function, name, value in self.ALL:
            told = function(WIDE, UNLIKE, value)
            self.assertTrue(same(function(**{name: value, "amounts": UNLIKE, "table": WIDE}), told))
            self.assertTrue(same(function(WIDE, **{name: value, "amounts": UNLIKE}), told))

    def test_equal_calls(self):
        for function, _, value in self.ALL:
            first = function(WIDE, UNLIKE, value)
            function(STEPS, ALL_ONE, value)
            again = tuple(list(value)) if type(value) is tuple else value
            self.assertTrue(same(function(tuple(list(WIDE)), tuple(list(UNLIKE)), again), first))

    def test_defined_in_the_file_of_signs(self):
        for function, _, _ in self.ALL:
            self.assertEqual(function.__module__, "fewtold.signs")


if __name__ == "__main__":
    unittest.main()
