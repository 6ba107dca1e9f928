"""What a table gives back, the share and the factor, and amounts that let it."""

import unittest
from fractions import Fraction
from itertools import combinations

from fewtold.back import (
    barring_dependence, factor, is_back, letting_amounts, most_back, share, worst_rows,
)
from fewtold.cheapest import is_only_cheapest
from fewtold.dependences import least_dependences
from fewtold.errors import NotBack
from fewtold.told import is_told, most_told, twin_rows
from tests.reckoning import (
    cases, dearest_and_others, long_amounts, long_numbers_table, ones, opposite, plain_cost, quotient, random_amounts,
    random_row, row_plus, small_tables, some_add_to_nothing_above, steps_for,
)
from tests.support import (
    LONG, NIL, ONE, SPECIAL, STEPS, THREE, TWO, WIDE, identity, is_told_row, lot_of, many_tables, numbers_of, pair,
    plain_sums, row_of, same, searched_least, table_of,
)

ODD = (THREE, ONE, ONE, THREE)
ALL_ONE = (ONE,) * 4
UNLIKE = (TWO, TWO, THREE, THREE)


def turning_table():
    """Three rows and six columns, the same when all columns move on by one place."""
    return table_of([1, 0, 0, 1, 0, 0], [0, 1, 0, 0, 1, 0], [0, 0, 1, 0, 0, 1])


class BackTest(unittest.TestCase):
    def _refuses(self, function, *arguments, **named):
        with self.assertRaises(NotBack) as caught:
            function(*arguments, **named)
        self.assertIs(type(caught.exception), NotBack)

    def test_examples(self):
        got = [
            most_told(STEPS), is_told(STEPS, 1), is_told(STEPS, 2), twin_rows(STEPS, 1),
            most_told(((ONE, NIL), (NIL, ONE))), most_told(((NIL, ONE),)),
        ]
        self.assertTrue(same(got, [1, True, False, None, 2, 0]))
        got = [
            most_back(STEPS, ALL_ONE), share(STEPS, ALL_ONE, 1), factor(STEPS, ALL_ONE, 1), share(STEPS, ODD, 1),
            factor(STEPS, ODD, 1), share(STEPS, ALL_ONE, 2), share(STEPS, ALL_ONE, 4),
            barring_dependence(STEPS, ALL_ONE, 2),
        ]
        want = [1, (3, 5), (4, 1), (1, 3), (2, 1), (3, 1), None, ((1, 1), (-3, 1), (3, 1), (-1, 1))]
        self.assertTrue(same(got, want), got)
        got = [
            most_back(WIDE, ALL_ONE), is_back(WIDE, UNLIKE, 1), letting_amounts(STEPS, 2),
            barring_dependence(WIDE, UNLIKE, 1),
        ]
        self.assertTrue(same(got, [0, True, None, None]), got)
        self._refuses(factor, STEPS, ALL_ONE, 2)

    def _check(self, table, amounts):
        """All answers for a table and amounts."""
        least = searched_least(table)
        most = 0
        for count in range(9):
            pairs = [dearest_and_others(amounts, row, count) for row in least]
            want = all(dearest < others for dearest, others in pairs)
            self.assertIs(is_back(table, amounts, count), want, (table, amounts, count))
            told = share(table, amounts, count)
            self.assertTrue(same(told, quotient(pairs)), (table, amounts, count))
            self.assertEqual(told is None, any(len(lot_of(row)) <= count for row in least))
            self._check_barring(table, amounts, count, least, want)
            if want:
                most = min(count, len(table[0]))
                self._check_factor(table, amounts, count, Fraction(*told), least)
            else:
                self._refuses(factor, table, amounts, count)
                self._refuses(worst_rows, table, amounts, count)
        self.assertTrue(same(most_back(table, amounts), most), (table, amounts))

    def _check_barring(self, table, amounts, count, least, back):
        row = barring_dependence(table, amounts, count)
        if back:
            self.assertIsNone(row)
            return
        self.assertTrue(is_told_row(row, len(table[0])))
        self.assertIn(row, least)
        dearest, others = dearest_and_others(amounts, row, count)
        self.assertGreaterEqual(dearest, others)

    def _check_factor(self, table, amounts, count, told, least):
        times = (1 + told) / (1 - told)
        self.assertTrue(same(factor(table, amounts, count), pair(times)))
        rows = worst_rows(table, amounts, count)
        if not least:
            self.assertIsNone(rows)
            return
        self.assertIs(type(rows), tuple)
        one, other = rows
        for row in rows:
            self.assertTrue(is_told_row(row, len(table[0])))
        self.assertNotEqual(one, other)
        self.assertEqual(plain_sums(table, one), plain_sums(table, other))
        _, beyond = dearest_and_others(amounts, one, count)
        apart = plain_cost(amounts, row_plus(other, opposite(one)))
        self.assertEqual(apart, times * (plain_cost(amounts, other) - plain_cost(amounts, one) + 2 * beyond))

    def test_any_tables(self):
        for table, amounts in cases(many_tables()):
            self._check(table, amounts)

    def test_tables_with_small_numbers(self):
        for table, amounts in cases(small_tables(3, 60), 1):
            self._check(table, amounts)

    def test_without_a_dependence(self):
        for table in (identity(1), identity(2), identity(6), table_of([3]), table_of([1, 2], [2, 4], [3, 7])):
            many = len(table[0])
            for amounts in (ones(many), random_amounts(5, many)):
                self.assertTrue(same(most_back(table, amounts), many))
                for count in range(9):
                    self.assertIs(is_back(table, amounts, count), True)
                    self.assertIsNone(barring_dependence(table, amounts, count))
                    self.assertTrue(same(share(table, amounts, count), NIL))
                    self.assertTrue(same(factor(table, amounts, count), ONE))
                    self.assertIsNone(worst_rows(table, amounts, count))
                    self._check_letting(table, count)

    def test_a_column_of_noughts(self):
        for table in (table_of([0]), table_of([0, 1]), table_of([0] * 8, [0] * 8), table_of([1, 0, 2], [0, 0, 1])):
            many = len(table[0])
            self.assertTrue(same(most_back(table, ones(many)), 0))
            self.assertTrue(same(share(table, ones(many), 0), NIL))
            self.assertTrue(same(factor(table, ones(many), 0), ONE))
            for count in range(1, 9):
                self.assertIs(is_back(table, ones(many), count), False)
                self.assertIsNone(share(table, ones(many), count))
                self._refuses(factor, table, ones(many), count)
                self._refuses(worst_rows, table, ones(many), count)
                self.assertIsNone(letting_amounts(table, count))

    def test_nothing_is_always_given_back(self):
        for table, amounts in cases(SPECIAL):
            self.assertIs(is_back(table, amounts, 0), True)
            self.assertTrue(same(share(table, amounts, 0), NIL))
            self.assertTrue(same(factor(table, amounts, 0), ONE))
            self.assertIsNone(barring_dependence(table, amounts, 0))
            self._check_letting(table, 0)

    def test_dearest_places_that_cost_just_as_much_as_the_others(self):
        table = table_of([1, 0, 1], [0, 1, 1])
        self.assertTrue(same(share(table, row_of(1, 1, 2), 1), ONE))
        self.assertIs(is_back(table, row_of(1, 1, 2), 1), False)
        self.assertTrue(same(barring_dependence(table, row_of(1, 1, 2), 1), row_of(1, 1, -1)))
        self._refuses(factor, table, row_of(1, 1, 2), 1)
        self._refuses(worst_rows, table, row_of(1, 1, 2), 1)
        nearly = row_of(1, 1, Fraction(2 * LONG - 1, LONG))
        self.assertIs(is_back(table, nearly, 1), True)
        self.assertTrue(same(factor(table, nearly, 1), pair(4 * LONG - 1)))
        self.assertIs(is_back(table, row_of(1, 1, Fraction(2 * LONG + 1, LONG)), 1), False)
        self.assertTrue(same(most_back(WIDE, ALL_ONE), 0))
        self.assertTrue(same(share(WIDE, ALL_ONE, 1), ONE))

    def test_amounts_count_by_what_they_are_to_one_another(self):
        for table in (WIDE, STEPS):
            for amounts in (UNLIKE, ODD, random_amounts(1, 4)):
                more = row_of(*[Fraction(7, 3) * number for number in numbers_of(amounts)])
                for count in range(5):
                    self.assertTrue(same(share(table, amounts, count), share(table, more, count)))

    def test_more_than_the_columns_is_as_many(self):
        for table, amounts in cases((WIDE, STEPS, identity(2), table_of([1, 2]))):
            many = len(table[0])
            for count in range(many, 9):
                self.assertIs(is_back(table, amounts, count), is_back(table, amounts, many))
                self.assertTrue(same(share(table, amounts, count), share(table, amounts, many)))
                self.assertEqual(letting_amounts(table, count) is None, letting_amounts(table, many) is None)

    def test_rows_that_come_back_and_rows_that_do_not(self):
        for table, amounts in cases(small_tables(9, 30)):
            many = len(table[0])
            for count in range(4):
                if is_back(table, amounts, count):
                    for seed, lot in enumerate(combinations(range(many), min(count, many))):
                        row = random_row(seed, many, (-2, -1, 1, 3))
                        few = tuple(number if k in lot else NIL for k, number in enumerate(row))
                        self.assertIs(is_only_cheapest(table, amounts, few), True)
                else:
                    row = barring_dependence(table, amounts, count)
                    ranked = sorted(range(many), key=lambda k: plain_cost((amounts[k],), (row[k],)), reverse=True)
                    few = tuple(number if k in ranked[:count] else NIL for k, number in enumerate(row))
                    rest = row_plus(few, opposite(row))
                    self.assertEqual(plain_sums(table, few), plain_sums(table, rest))
                    self.assertGreaterEqual(plain_cost(amounts, few), plain_cost(amounts, rest))
                    self.assertIs(is_only_cheapest(table, amounts, few), False)

    def test_the_factor_holds_for_any_rows(self):
        for table, amounts in cases((STEPS, table_of([1, 0, 1], [0, 1, 1])) + tuple(small_tables(4, 12))):
            for count in range(3):
                if not is_back(table, amounts, count):
                    continue
                times = Fraction(*factor(table, amounts, count))
                for seed in range(10):
                    one = random_row(seed, len(table[0]))
                    for row in least_dependences(table)[:10]:
                        other = row_plus(one, row)
                        _, beyond = dearest_and_others(amounts, one, count)
                        bound = plain_cost(amounts, other) - plain_cost(amounts, one) + 2 * beyond
                        self.assertLessEqual(plain_cost(amounts, row), times * bound)

    def test_what_is_given_back_is_told_and_all_less_is_given_back(self):
        for table, amounts in cases(small_tables(5, 30)):
            for count in range(1, 9):
                if is_back(table, amounts, count):
                    self.assertIs(is_told(table, count), True)
                    self.assertIs(is_back(table, amounts, count - 1), True)

    def _check_letting(self, table, count):
        """Amounts that let, or what shows that none do; whether there are some."""
        amounts = letting_amounts(table, count)
        if amounts is None:
            self.assertTrue(some_add_to_nothing_above(steps_for(table, count)), (table, count))
            return False
        self.assertTrue(is_told_row(amounts, len(table[0])))
        self.assertTrue(all(number[0] > 0 for number in amounts))
        for row in searched_least(table):
            dearest, others = dearest_and_others(amounts, row, count)
            self.assertLess(dearest, others)
        self.assertIs(is_back(table, amounts, count), True)
        return True

    def test_letting_amounts(self):
        for table in many_tables() + small_tables(6, 60):
            for count in (1, 2, 8):
                if is_told(table, count):
                    self._check_letting(table, count)
                else:
                    self.assertIsNone(letting_amounts(table, count), (table, count))

    def test_letting_amounts_where_those_that_are_all_1_do_not(self):
        found = 0
        self.assertIs(is_back(WIDE, ALL_ONE, 1), False)
        self.assertIs(self._check_letting(WIDE, 1), True)
        for table in small_tables(7, 120):
            for count in (1, 2):
                if is_told(table, count) and not is_back(table, ones(len(table[0])), count):
                    found += self._check_letting(table, count)
        self.assertGreater(found, 5)

    def test_no_amounts_although_it_is_told(self):
        found = 0
        for table in small_tables(8, 150):
            for count in (1, 2):
                if is_told(table, count) and letting_amounts(table, count) is None:
                    self.assertTrue(some_add_to_nothing_above(steps_for(table, count)))
                    found += 1
        self.assertGreater(found, 3)

    def test_amounts_for_tables_that_are_the_same_when_turned(self):
        # If some amounts let, so do all that they become by turning, and their sum: all alike.
        self.assertIs(is_told(turning_table(), 1), False)
        self.assertIsNone(letting_amounts(turning_table(), 1))
        pairs = (
            ([1, 1, 0, -1, -1, 0], [0, 1, 1, 0, -1, -1]), ([1, -1, 0, 1, -1, 0], [0, 1, -1, 0, 1, -1]),
        )
        for first, second in pairs:
            for third in ([1, 1, 1, 1, 1, 1], [1, -1, 1, -1, 1, -1]):
                for table in (table_of(first, second, third), table_of(first, second, third, [1] * 6)):
                    for count in (1, 2):
                        lets = letting_amounts(table, count) is not None
                        self.assertIs(lets, is_back(table, ones(6), count), (table, count))

    def test_letting_amounts_are_above_nought_where_0_would_nearly_do(self):
        first = table_of(
            [0, 0, 1, -1, 1, 0, 1, 0], [-1, -1, 0, 1, 1, 1, 1, -1], [-1, 1, 0, 0, 0, 1, -1, 0],
            [-1, 0, 1, 0, 0, 0, 0, -1], [1, 0, 1, -1, 1, 1, 0, 0], [1, 1, -1, -1, 0, 1, -1, -1],
        )
        second = table_of(
            [1, -1, 0, 0, -1, 0, -1, 0], [1, 0, 1, 1, 0, -1, -1, -1], [1, -1, 1, 1, 0, 0, 1, 1],
            [0, -1, 1, 1, -1, -1, -1, 1], [0, -1, 1, 0, -1, 0, 1, -1], [1, 0, 0, 1, -1, -1, 0, 0],
        )
        for table in (first, second):
            self.assertIs(self._check_letting(table, 2), True)

    def test_letting_amounts_of_powers(self):
        for height in (3, 4, 5, 6):
            places = [1, 2, 3, 4, 5, 6, 7, 9]
            table = table_of(*[[place ** power for place in places] for power in range(height)])
            for count in (1, 2, 3):
                self._check_letting(table, count)

    def test_long_numbers(self):
        for height, many in ((1, 3), (2, 4), (3, 5), (5, 6)):
            table = long_numbers_table(height, height, many)
            self._check(table, ones(many))
            self._check(table, long_amounts(many))
            for count in (0, 1, 2):
                self._check_letting(table, count)

    def test_long_numbers_in_the_widest(self):
        table = long_numbers_table(1, 6, 8)
        amounts = letting_amounts(table, 1)
        self.assertIs(is_back(table, amounts, 1), True)
        self.assertIs(share(table, amounts, 8) is None, True)
        if not is_back(table, amounts, 2):
            self.assertIsNotNone(barring_dependence(table, amounts, 2))

    def test_what_is_told_may_be_passed(self):
        for table in (WIDE, STEPS, long_numbers_table(2, 3, 4)):
            amounts = letting_amounts(table, 1)
            if amounts is None:
                continue
            self._check(table, amounts)
            self._check(worst_rows(table, amounts, 1), amounts)
            self._check((barring_dependence(table, amounts, 2), amounts), amounts)

    def test_by_name(self):
        self.assertTrue(same(most_back(amounts=ALL_ONE, table=STEPS), 1))
        self.assertIs(is_back(count=1, amounts=UNLIKE, table=WIDE), True)
        self.assertIs(is_back(WIDE, UNLIKE, count=1), True)
        self.assertTrue(same(barring_dependence(count=2, table=STEPS, amounts=ALL_ONE), row_of(1, -3, 3, -1)))
        self.assertTrue(same(share(count=1, amounts=ODD, table=STEPS), (1, 3)))
        self.assertTrue(same(factor(amounts=ODD, count=1, table=STEPS), (2, 1)))
        told = worst_rows(STEPS, ODD, 1)
        self.assertTrue(same(worst_rows(count=1, amounts=ODD, table=STEPS), told))
        self.assertTrue(same(letting_amounts(count=1, table=WIDE), letting_amounts(WIDE, 1)))
        self._refuses(factor, count=2, amounts=ALL_ONE, table=STEPS)
        self._refuses(worst_rows, count=2, amounts=ALL_ONE, table=STEPS)

    def test_equal_calls(self):
        first = [
            most_back(WIDE, UNLIKE), is_back(WIDE, UNLIKE, 1), barring_dependence(WIDE, UNLIKE, 2),
            share(WIDE, UNLIKE, 1), factor(WIDE, UNLIKE, 1), worst_rows(WIDE, UNLIKE, 1), letting_amounts(WIDE, 1),
        ]
        share(STEPS, ALL_ONE, 1)
        letting_amounts(STEPS, 1)
        table, amounts = tuple(list(WIDE)), tuple(list(UNLIKE))
        again = [
            most_back(table, amounts), is_back(table, amounts, 1), barring_dependence(table, amounts, 2),
            share(table, amounts, 1), factor(table, amounts, 1), worst_rows(table, amounts, 1),
            letting_amounts(table, 1),
        ]
        self.assertTrue(same(first, again))

    def test_defined_in_the_file_of_back(self):
        for function in (most_back, is_back, barring_dependence, share, factor, worst_rows, letting_amounts):
            self.assertEqual(function.__module__, "fewtold.back")


if __name__ == "__main__":
    unittest.main()
