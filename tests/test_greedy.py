"""Pulls, greedy steps, greedy shares, and rows that stray."""

import unittest
from fractions import Fraction
from itertools import combinations

from fewtold.back import is_back
from fewtold.errors import NotFree
from fewtold.greedy import greedy_run, greedy_share, is_greedy, most_greedy, pulls, straying_row
from fewtold.signs import is_lot_back, lot_share
from fewtold.tables import is_free, sums_of
from tests.nearest import (
    dot, plain_columns, plain_greedy_share, plain_pulls, plain_run, row_on_lot, what_is_left,
)
from tests.reckoning import long_numbers_table, ones, random_lots, random_row, small_tables
from tests.support import (
    LESS, LONG, NIL, ONE, SPECIAL, STEPS, TWO, WIDE, identity, is_told_row, lot_of, lots_of, many_tables, numbers_of,
    pair, plain_sums, random_table, rank_on, row_of, same, table_of,
)

BOTH = ((ONE, NIL, ONE), (NIL, ONE, ONE))
NEAR = ((TWO, ONE, ONE), (ONE, TWO, LESS))
FAR = 10 ** 60


class GreedyTest(unittest.TestCase):
    def _refuses(self, function, *arguments, **named):
        with self.assertRaises(NotFree) as caught:
            function(*arguments, **named)
        self.assertIs(type(caught.exception), NotFree)

    def test_examples(self):
        nil, one, two, half = NIL, ONE, TWO, (1, 2)
        got = [
            pulls(BOTH, (two, one)), greedy_run(BOTH, (two, one)), greedy_run(BOTH, (nil, nil)),
            greedy_run(((one, one), (one, one)), (one, nil)),
        ]
        want = [
            ((2, 1), (1, 1), (3, 1)), ((0, 2), ((1, 1), (0, 1), (1, 1))), ((), ((0, 1), (0, 1), (0, 1))),
            ((0,), ((1, 2), (0, 1))),
        ]
        self.assertTrue(same(got, want), got)
        got = [
            greedy_share(BOTH, (2,)), greedy_share(BOTH, (0,)), greedy_share(BOTH, (0, 1)), is_greedy(BOTH, (2,)),
            is_greedy(BOTH, (0,)), straying_row(BOTH, (2,)), most_greedy(BOTH),
        ]
        self.assertTrue(same(got, [(1, 2), (1, 1), (2, 1), True, False, None, 0]), got)
        got = [
            greedy_share(NEAR, (0,)), greedy_share(NEAR, (2,)), most_greedy(NEAR), is_greedy(NEAR, (0, 1)),
            most_greedy(((one, nil), (nil, one))), is_greedy(BOTH, ()),
        ]
        self.assertTrue(same(got, [(4, 5), half, 1, False, 2, True]), got)
        self._refuses(greedy_share, BOTH, (0, 1, 2))

    def _check_run(self, table, sums):
        """The run of just these sums, held against plain steps; the row."""
        lot, row = run = greedy_run(table, sums)
        self.assertIs(type(run), tuple)
        self.assertIs(type(lot), tuple)
        self.assertTrue(all(type(place) is int for place in lot))
        self.assertTrue(is_told_row(row, len(table[0])))
        taken, want = plain_run(table, sums, min)
        self.assertEqual(lot, tuple(sorted(taken)), (table, sums))
        self.assertEqual(row, want, (table, sums))
        self.assertIs(is_free(table, lot), True)
        self.assertLessEqual(len(lot), len(table))
        left = [a - b for a, b in zip(numbers_of(sums), plain_sums(table, row))]
        self.assertFalse(any(plain_pulls(table, row_of(*left))))
        return row

    def test_runs_to_sums_that_rows_have(self):
        for seed, table in enumerate(many_tables() + small_tables(71, 80)):
            for again in range(2):
                sums = row_of(*plain_sums(table, random_row(1000 * again + seed, len(table[0]))))
                row = self._check_run(table, sums)
                # Some row has the sums: so nothing is left.
                self.assertEqual(plain_sums(table, row), numbers_of(sums))

    def test_runs_to_sums_that_no_row_has(self):
        missed = 0
        for seed, table in enumerate(many_tables() + small_tables(72, 60)):
            sums = random_row(seed, len(table), (-3, 1, 2, 5))
            row = self._check_run(table, sums)
            beside = tuple(line + (number,) for line, number in zip(table, sums))
            has = rank_on(beside, range(len(table[0]) + 1)) == rank_on(table, range(len(table[0])))
            self.assertEqual(plain_sums(table, row) == numbers_of(sums), has)
            missed += not has
        self.assertGreater(missed, 20)

    def test_sums_of_noughts_take_nothing(self):
        for table in SPECIAL:
            many = len(table[0])
            self.assertTrue(same(greedy_run(table, (NIL,) * len(table)), ((), (NIL,) * many)))

    def test_sums_at_right_angles_to_all_columns_take_nothing(self):
        table = table_of([1, 1], [1, 1])
        self.assertTrue(same(greedy_run(table, (ONE, LESS)), ((), (NIL, NIL))))
        self.assertTrue(same(greedy_run(table_of([0], [0]), (ONE, TWO)), ((), (NIL,))))

    def test_of_columns_that_pull_alike_the_first_is_taken(self):
        self.assertTrue(same(greedy_run(table_of([1, 1, -1]), (TWO,)), ((0,), (TWO, NIL, NIL))))
        self.assertTrue(same(greedy_run(table_of([-1, 1]), (TWO,)), ((0,), (row_of(-2, 0)))))
        self.assertTrue(same(greedy_run(table_of([0, 1, 1]), (TWO,)), ((1,), (NIL, TWO, NIL))))
        self.assertTrue(same(greedy_run(identity(3), row_of(-2, 2, 2))[0], (0, 1, 2)))
        # The third and the fourth pull 2 both; with the fourth first the third would not be taken.
        table = table_of([1, 0, 1, 1], [0, 1, 1, -1])
        self.assertTrue(same(greedy_run(table, row_of(2, 0)), ((0,), row_of(2, 0, 0, 0))))

    def test_a_longer_column_pulls_more(self):
        self.assertTrue(same(greedy_run(table_of([1, 2]), (TWO,)), ((1,), (NIL, ONE))))
        self.assertTrue(same(greedy_run(table_of([Fraction(1, 2), Fraction(1, 3)]), (ONE,)), ((0,), (TWO, NIL))))
        self.assertTrue(same(greedy_run(table_of([Fraction(1, 3), Fraction(1, 2)]), (ONE,)), ((1,), (NIL, TWO))))
        self.assertTrue(same(greedy_run(table_of([Fraction(FAR - 1, FAR), 1]), (ONE,))[0], (1,)))

    def test_a_multiple_behind_the_last_step_may_be_0(self):
        found = 0
        for seed in range(300):
            table = random_table(seed, 3, 5, (-2, -1, 0, 1, 2), (1,))
            sums = row_of(*plain_sums(table, random_row(seed, 5)))
            lot, row = greedy_run(table, sums)
            self.assertLessEqual(set(lot_of(row)), set(lot))
            found += lot_of(row) != lot
        self.assertGreater(found, 3)

    def test_pulls(self):
        for seed, table in enumerate(many_tables()):
            left = random_row(seed, len(table))
            self.assertTrue(same(pulls(table, left), row_of(*plain_pulls(table, left))))
            self.assertTrue(same(pulls(table, (NIL,) * len(table)), (NIL,) * len(table[0])))

    def _check_lot(self, table, lot):
        """All that is told of a lot."""
        want = plain_greedy_share(table, lot)
        if want is None:
            for function in (greedy_share, is_greedy, straying_row):
                self._refuses(function, table, lot)
            return
        self.assertTrue(same(greedy_share(table, lot), pair(want)), (table, lot))
        self.assertIs(is_greedy(table, lot), want < 1)
        row = straying_row(table, lot)
        if want < 1:
            self.assertIsNone(row)
            return
        self._check_straying(table, lot, row)

    def _check_straying(self, table, lot, row):
        self.assertTrue(is_told_row(row, len(table[0])))
        self.assertNotEqual(lot_of(row), ())
        self.assertLessEqual(set(lot_of(row)), set(lot))
        sizes = [abs(number) for number in plain_pulls(table, row_of(*plain_sums(table, row)))]
        most = max(sizes[place] for place in lot)
        self.assertTrue(any(size >= most for place, size in enumerate(sizes) if place not in lot), (table, lot))

    def test_lots_of_any_tables(self):
        for seed, table in enumerate(many_tables() + small_tables(73, 60)):
            many = len(table[0])
            for lot in [(), tuple(range(many))] + random_lots(seed, many, 3) + [(seed % many,)]:
                self._check_lot(table, lot)

    def test_all_lots_of_some_tables(self):
        for table in (WIDE, STEPS, BOTH, NEAR, identity(4)[:3]) + tuple(small_tables(74, 12)):
            for lot in lots_of(len(table[0]), 4):
                self._check_lot(table, lot)

    def test_the_empty_lot_and_the_lot_of_all_columns(self):
        for table in SPECIAL:
            self.assertTrue(same(greedy_share(table, ()), NIL))
            self.assertIs(is_greedy(table, ()), True)
            self.assertIsNone(straying_row(table, ()))
        for table in (identity(1), identity(6), table_of([1, 2], [2, 5], [3, 7])):
            lot = tuple(range(len(table[0])))
            self.assertTrue(same(greedy_share(table, lot), NIL))
            self.assertIs(is_greedy(table, lot), True)
            self.assertIsNone(straying_row(table, lot))

    def test_a_column_of_noughts_off_the_lot_does_no_harm(self):
        table = table_of([1, 0, 0], [0, 1, 0])
        self.assertTrue(same(greedy_share(table, (0, 1)), NIL))
        self.assertIs(is_greedy(table, (0,)), True)
        self._refuses(is_greedy, table, (2,))
        self._refuses(greedy_share, table, (0, 2))
        self.assertTrue(same(most_greedy(table), 0))

    def test_equal_and_opposite_columns(self):
        table = table_of([1, 1, 0], [0, 0, 1])
        self.assertTrue(same(greedy_share(table, (0,)), ONE))
        self.assertIs(is_greedy(table, (0,)), False)
        self.assertTrue(same(greedy_share(table_of([1, -1]), (0,)), ONE))
        self.assertTrue(same(greedy_share(table_of([1, -1]), (1,)), ONE))
        self.assertIsNotNone(straying_row(table_of([1, -1]), (1,)))
        self._refuses(straying_row, table, (0, 1))

    def test_shares_beside_1(self):
        # The second column has the share on the first one that is told.
        for told in (Fraction(FAR - 1, FAR), Fraction(FAR + 1, FAR), Fraction(1), Fraction(1 - FAR, FAR)):
            table = table_of([1, told], [0, 3])
            self.assertTrue(same(greedy_share(table, (0,)), pair(abs(told))))
            self.assertIs(is_greedy(table, (0,)), abs(told) < 1)
            self._check_lot(table, (0,))
            table = table_of([1, 0, told / 2, 0], [0, 1, Fraction(-1, 2), 0], [0, 0, 5, 1])
            self.assertTrue(same(greedy_share(table, (0, 1)), pair((abs(told) + 1) / 2)))
            self.assertIs(is_greedy(table, (0, 1)), abs(told) < 1)
            self._check_lot(table, (0, 1))

    def test_a_longer_column_has_greater_shares(self):
        table = table_of([1, 1], [0, 1])
        for times in (1, 2, Fraction(FAR + 1, FAR), Fraction(1, 3)):
            scaled = table_of([1, times], [0, times])
            self.assertTrue(same(greedy_share(scaled, (0,)), pair(times)))
            self.assertIs(is_greedy(scaled, (0,)), times < 1)
        self.assertTrue(same(greedy_share(table, (1,)), (1, 2)))

    def test_greedy_lots_are_found_whatever_is_done_among_equal_pulls(self):
        found = 0
        for seed, table in enumerate(small_tables(75, 120) + [NEAR, BOTH, identity(6)]):
            many = len(table[0])
            for lot in random_lots(seed, many, 2) + [(seed % many,)]:
                if rank_on(table, lot) < len(lot) or not is_greedy(table, lot):
                    continue
                found += 1
                row = row_on_lot(seed, many, lot)
                sums = row_of(*plain_sums(table, row))
                for pick in (min, max, lambda places: ([k for k in places if k not in lot] or places)[0]):
                    taken, told = plain_run(table, sums, pick)
                    self.assertLessEqual(set(taken), set(lot))
                    self.assertEqual(told, row)
                self.assertEqual(greedy_run(table, sums)[1], row)
        self.assertGreater(found, 80)

    def test_rows_that_stray_are_not_found_by_columns_of_the_lot_alone(self):
        found = 0
        for seed, table in enumerate(small_tables(76, 100)):
            for lot in random_lots(seed, len(table[0]), 3):
                if rank_on(table, lot) < len(lot) or is_greedy(table, lot):
                    continue
                found += 1
                sums = row_of(*plain_sums(table, straying_row(table, lot)))
                taken, _ = plain_run(table, sums, lambda places: ([k for k in places if k not in lot] or places)[0])
                self.assertNotIn(taken[0], lot)
        self.assertGreater(found, 50)

    def test_most_greedy(self):
        for table in many_tables() + small_tables(77, 40) + [NEAR, BOTH, identity(5)]:
            self._check_most(table)

    def _check_most(self, table):
        many = len(table[0])
        want = 0
        for count in range(1, many + 1):
            shares = [plain_greedy_share(table, lot) for lot in combinations(range(many), count)]
            if any(share is None or share >= 1 for share in shares):
                break
            want = count
        self.assertTrue(same(most_greedy(table), want), table)

    def test_most_greedy_where_it_is_more(self):
        for many in range(1, 7):
            self.assertTrue(same(most_greedy(identity(many)), many))
        # Columns that are nearly at right angles.
        near = table_of(*[[10 if a == b else (a + b) % 3 - 1 for b in range(6)] for a in range(6)])
        self._check_most(near)
        self.assertTrue(same(most_greedy(near), 6))
        # One column leans to all the others, which are at right angles.
        for height, number, want in ((3, 4, 1), (5, 4, 2), (5, 5, 1), (5, 2, 0), (6, 3, 2)):
            rows = [[int(a == b) for b in range(height)] + [Fraction(number, 10)] for a in range(height)]
            self._check_most(table_of(*rows))
            self.assertTrue(same(most_greedy(table_of(*rows)), want), (height, number))

    def test_what_is_greedy_is_the_only_cheapest(self):
        found = 0
        for seed, table in enumerate(small_tables(78, 80)):
            many = len(table[0])
            for lot in random_lots(seed, many, 3):
                if rank_on(table, lot) < len(lot):
                    continue
                share, greedy = Fraction(*lot_share(table, ones(many), lot)), Fraction(*greedy_share(table, lot))
                self.assertLessEqual(share, greedy)
                if greedy < 1:
                    found += 1
                    self.assertIs(is_lot_back(table, ones(many), lot), True)
            self.assertIs(is_back(table, ones(many), most_greedy(table)), True)
        self.assertGreater(found, 40)

    def test_the_widest(self):
        for height, many in ((5, 7), (5, 8), (6, 7), (6, 8)):
            for seed in range(3):
                table = random_table(seed, height, many)
                self._check_run(table, row_of(*plain_sums(table, random_row(seed, many))))
                for lot in ((0,), (1, 3), (2, 4, 6), tuple(range(height)), tuple(range(many))):
                    self._check_lot(table, lot)

    def test_long_numbers(self):
        for height, many, figures in ((2, 3, 300), (4, 6, 100), (6, 8, 60)):
            table = long_numbers_table(height, height, many, figures)
            row = row_on_lot(3, many, (0, many - 1))
            self._check_run(table, row_of(*plain_sums(table, row)))
            for lot in ((), (0,), (0, 1), tuple(range(height))):
                self._check_lot(table, lot)
            self.assertTrue(same(pulls(table, row[:height]), row_of(*plain_pulls(table, row[:height]))))
        table = table_of([LONG, 1, Fraction(1, LONG)], [1 - LONG, Fraction(LONG - 1, LONG), 7])
        self._check_most(table)
        self._check_run(table, (pair(LONG), pair(Fraction(1, LONG))))
        self._check_run(table, pulls((table[0], table[1]), (pair(LONG - 1), ONE))[:2])

    def test_what_is_told_may_be_passed(self):
        for table in (WIDE, STEPS, long_numbers_table(2, 3, 4)):
            lot, row = greedy_run(table, sums_of(table, row_on_lot(4, 4, (1, 2))))
            self._check_run(table, sums_of(table, row))
            self._check_lot(table, lot)
            stray = straying_row(table, (0,))
            if stray is not None:
                self._check_run(table, sums_of(table, stray))
            self._check_lot((pulls(table, (ONE,) * len(table)), row), (0,))

    def test_the_nearest_sum(self):
        for seed, table in enumerate(small_tables(79, 40)):
            sums = random_row(seed, len(table), (-2, 1, 3))
            _, row = greedy_run(table, sums)
            left = what_is_left(plain_columns(table), numbers_of(sums), numbers_of(row))
            for other in range(3):
                moved = [a - b for a, b in zip(left, plain_sums(table, random_row(other, len(table[0]))))]
                self.assertLessEqual(dot(left, left), dot(moved, moved))

    def test_by_name(self):
        self.assertTrue(same(pulls(left=(TWO, ONE), table=BOTH), row_of(2, 1, 3)))
        self.assertTrue(same(greedy_run(sums=(TWO, ONE), table=BOTH), ((0, 2), row_of(1, 0, 1))))
        self.assertTrue(same(greedy_share(lot=(2,), table=BOTH), (1, 2)))
        self.assertIs(is_greedy(lot=(0,), table=BOTH), False)
        self.assertTrue(same(straying_row(lot=(0,), table=BOTH), straying_row(BOTH, (0,))))
        self.assertTrue(same(most_greedy(table=NEAR), 1))
        self._refuses(greedy_share, lot=(0, 1, 2), table=BOTH)

    def test_equal_calls(self):
        first = [
            pulls(NEAR, (ONE, TWO)), greedy_run(NEAR, (ONE, TWO)), greedy_share(NEAR, (0,)), is_greedy(NEAR, (0,)),
            straying_row(NEAR, (0, 1)), most_greedy(NEAR),
        ]
        greedy_run(BOTH, (ONE, TWO))
        table, sums = tuple(list(NEAR)), tuple([ONE, TWO])
        again = [
            pulls(table, sums), greedy_run(table, sums), greedy_share(table, (0,)), is_greedy(table, (0,)),
            straying_row(table, (0, 1)), most_greedy(table),
        ]
        self.assertTrue(same(first, again))

    def test_defined_in_the_file_of_greedy(self):
        for function in (pulls, greedy_run, greedy_share, is_greedy, straying_row, most_greedy):
            self.assertEqual(function.__module__, "fewtold.greedy")


if __name__ == "__main__":
    unittest.main()
