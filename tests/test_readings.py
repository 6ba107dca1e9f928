"""Readings, least rows, what is told, seen and mended, and fits that cost least."""

import unittest
from fractions import Fraction
from itertools import combinations

from fewtold.errors import NotBack
from fewtold.readings import (
    barring_fit, cheapest_fit, does_mend, is_only_fit, is_readings, least_rows, most_seen, most_told_wrong, most_wrong,
    reading_factor, reading_share,
)
from tests.nearest import deviations, fit_cost, random_readings, sums_for
from tests.reckoning import (
    dearest_and_others, long_amounts, long_numbers_table, ones, opposite, plain_cost, quotient, random_amounts,
    random_row, row_plus, searched_corners, signed_and_off,
)
from tests.support import (
    LESS, LONG, NIL, NO_FRACTIONS, ONE, THREE, TWO, identity, is_told_row, lot_of, no_readings, numbers_of, pair,
    plain_sums, rank_on, row_of, same, searched_least, table_of, with_item,
)

THRICE, EVEN = ((ONE,), (ONE,), (ONE,)), (ONE, ONE, ONE)
STRAIGHT = ((ONE, NIL), (ONE, ONE), (ONE, TWO), (ONE, THREE), (ONE, (4, 1)))
ALIKE = (ONE,) * 5
FAR = 10 ** 60
SPECIAL = (
    THRICE, STRAIGHT, STRAIGHT[:4], STRAIGHT[:2], ((ONE,),), ((LESS,),), table_of([0], [0], [3]),
    table_of([1], [-2], [0], [1], [0], [5], [1], [1]), identity(4), identity(3), identity(1),
    table_of([0, 0], [1, 2], [3, 4], [0, 0]), table_of([1, 2], [1, 2], [1, 3], [1, 3]),
    table_of([1, 0], [0, 1], [1, 0], [0, 1], [1, 0], [0, 1]), table_of([1, 0], [2, 0], [0, 1]),
    table_of([1, 0, 0], [0, 1, 0], [0, 0, 1], [1, 1, 1], [1, 2, 3], [1, 4, 9], [0, 0, 0], [2, 2, 2]),
    table_of(*[[base ** power for power in range(4)] for base in range(8)]),
    table_of(*[[base ** power for power in range(3)] for base in range(1, 8)]),
    table_of([Fraction(1, LONG), 1], [LONG, 1 - LONG], [Fraction(LONG - 1, LONG), Fraction(1, 3)], [1, 1]),
)


def many_readings(times=60):
    found = list(SPECIAL)
    for seed in range(times):
        found.append(random_readings(seed))
        found.append(random_readings(seed, None, None, (-1, 0, 1), (1,)))
    for many in range(1, 9):
        for width in range(1, min(many, 4) + 1):
            found.append(random_readings(many, many, width))
    return found


class ReadingsTest(unittest.TestCase):
    def _refuses(self, function, *arguments, **named):
        with self.assertRaises(NotBack) as caught:
            function(*arguments, **named)
        self.assertIs(type(caught.exception), NotBack)

    def test_examples(self):
        nil, one, two = NIL, ONE, TWO
        got = [
            is_readings(THRICE), is_readings(((one, one), (two, two))), least_rows(THRICE), most_told_wrong(THRICE),
            most_seen(THRICE), most_wrong(THRICE, EVEN), most_wrong(THRICE, ((3, 1), one, one)),
        ]
        self.assertTrue(same(got, [True, False, (((1, 1), (1, 1), (1, 1)),), 1, 2, 1, 0]), got)
        got = [
            len(least_rows(STRAIGHT)), least_rows(STRAIGHT)[0], most_told_wrong(STRAIGHT), most_seen(STRAIGHT),
            most_wrong(STRAIGHT, ALIKE), does_mend(STRAIGHT, ALIKE, 2), does_mend(STRAIGHT[:4], ALIKE[:4], 1),
            barring_fit(STRAIGHT, ALIKE, 1),
        ]
        want = [5, ((1, 1), (3, 4), (1, 2), (1, 4), (0, 1)), 1, 3, 1, False, False, None]
        self.assertTrue(same(got, want), got)
        got = [
            cheapest_fit(STRAIGHT, ALIKE, (nil, one, two, (9, 1), (4, 1))),
            is_only_fit(STRAIGHT, ALIKE, (nil, one, two, (9, 1), (4, 1))),
            cheapest_fit(THRICE, EVEN, (one, two, (9, 1))), is_only_fit(THRICE[:2], EVEN[:2], (one, two)),
        ]
        self.assertTrue(same(got, [((0, 1), (1, 1)), True, ((2, 1),), False]), got)
        got = [
            reading_share(STRAIGHT, ALIKE, 1), reading_factor(STRAIGHT, ALIKE, 1), reading_share(THRICE, EVEN, 1),
            reading_factor(THRICE, EVEN, 0), reading_share(THRICE, EVEN, 3),
        ]
        self.assertTrue(same(got, [(3, 4), (7, 1), (1, 2), (1, 1), None]), got)
        self._refuses(reading_factor, STRAIGHT, ALIKE, 2)

    def test_is_readings(self):
        for readings in many_readings():
            self.assertIs(is_readings(readings), True)
            for value in no_readings(readings):
                self.assertIs(is_readings(value), False, repr(value)[:300])
            # One column more that is a sum of the others.
            double = tuple(row + (pair(sum(numbers_of(row))),) for row in readings)
            self.assertIs(is_readings(double), False)

    def test_is_readings_by_rank(self):
        for seed in range(200):
            many, width = 1 + seed % 8, 1 + seed % 4
            numbers = [[(seed * a + a * a * b + b * seed // 3) % 3 - 1 for b in range(width)] for a in range(many)]
            source = table_of(*numbers)
            self.assertIs(is_readings(source), rank_on(source, range(width)) == width, source)

    def test_is_readings_whatever_it_is(self):
        for value in NO_FRACTIONS:
            self.assertIs(is_readings(value), False)
            self.assertIs(is_readings(((value,),)), False)
            self.assertIs(is_readings(((ONE, value), (NIL, ONE))), False)
            if value != (ONE, ONE):
                self.assertIs(is_readings(with_item(STRAIGHT, 4, value)), False)
        self.assertIs(is_readings(((ONE,),) * 8), True)
        self.assertIs(is_readings(((ONE,),) * 9), False)
        self.assertIs(is_readings(identity(5)), False)
        self.assertIs(is_readings(identity(4) * 2), True)
        self.assertIs(is_readings(identity(4) * 2 + ((ONE,) * 4,)), False)

    def test_least_rows(self):
        for readings in many_readings():
            found = least_rows(readings)
            self.assertTrue(same(found, searched_least(sums_for(readings))), readings)
            self.assertEqual(list(found), sorted(found, key=lot_of))

    def test_least_rows_are_told_and_lack_the_places_of_free_rows(self):
        for readings in many_readings(20):
            width = len(readings[0])
            for row in least_rows(readings):
                beside = tuple(told + (number,) for told, number in zip(readings, row))
                self.assertEqual(rank_on(beside, range(width + 1)), width)
                lacking = tuple(told for told, number in zip(readings, row) if number == NIL)
                rank = rank_on(lacking, range(width)) if lacking else 0
                self.assertEqual(rank, width - 1)
            lots = [lot_of(row) for row in least_rows(readings)]
            self.assertFalse(any(set(a) < set(b) or a == b for a, b in combinations(lots, 2)))

    def _check_told(self, readings):
        sizes = [len(lot_of(row)) for row in searched_least(sums_for(readings))]
        wrong = [k for k in range(9) if all(size > 2 * k for size in sizes)]
        seen = [k for k in range(9) if all(size > k for size in sizes)]
        self.assertTrue(same(most_told_wrong(readings), max(wrong)), readings)
        self.assertTrue(same(most_seen(readings), max(seen)), readings)

    def test_what_is_told_and_seen(self):
        for readings in many_readings():
            self._check_told(readings)

    def test_what_is_told_and_seen_edges(self):
        for readings, wrong, seen in (
            (identity(4), 0, 0), (((ONE,),), 0, 0), (((ONE,),) * 8, 3, 7), (((ONE,),) * 7, 3, 6), (((ONE,),) * 2, 0, 1),
            (table_of([0], [0], [3]), 0, 0), (table_of(*[[b ** p for p in range(4)] for b in range(8)]), 2, 4),
            (table_of([1], [0], [1], [1]), 1, 2),
        ):
            self.assertTrue(same(most_told_wrong(readings), wrong))
            self.assertTrue(same(most_seen(readings), seen))

    def _check_mending(self, readings, amounts):
        least = searched_least(sums_for(readings))
        most = 0
        for count in range(9):
            pairs = [dearest_and_others(amounts, row, count) for row in least]
            mends = all(dearest < others for dearest, others in pairs)
            self.assertIs(does_mend(readings, amounts, count), mends, (readings, amounts, count))
            most = count if mends else most
            told = reading_share(readings, amounts, count)
            self.assertTrue(same(told, quotient(pairs)), (readings, amounts, count))
            self.assertEqual(told is None, any(len(lot_of(row)) <= count for row in least))
            fit = barring_fit(readings, amounts, count)
            self.assertEqual(fit is None, mends)
            if mends:
                share = Fraction(*told)
                self.assertTrue(same(reading_factor(readings, amounts, count), pair((1 + share) / (1 - share))))
            else:
                self._refuses(reading_factor, readings, amounts, count)
                self._check_barring(readings, amounts, count, fit)
        self.assertTrue(same(most_wrong(readings, amounts), most))
        self.assertLessEqual(most, most_told_wrong(readings))

    def _check_barring(self, readings, amounts, count, fit):
        self.assertTrue(is_told_row(fit, len(readings[0])))
        self.assertNotEqual(lot_of(fit), ())
        row = row_of(*plain_sums(readings, fit))
        dearest, others = dearest_and_others(amounts, row, count)
        self.assertGreaterEqual(dearest, others)
        # So many wrong values, the dearest of the row, that cost the fit of noughts no less than this one.
        ranked = sorted(range(len(row)), key=lambda k: plain_cost((amounts[k],), (row[k],)), reverse=True)
        values = tuple(number if k in ranked[:count] else NIL for k, number in enumerate(row))
        none = (NIL,) * len(fit)
        self.assertLessEqual(fit_cost(readings, amounts, fit, values), fit_cost(readings, amounts, none, values))
        self.assertFalse(cheapest_fit(readings, amounts, values) == none and is_only_fit(readings, amounts, values))

    def test_mending(self):
        for seed, readings in enumerate(many_readings()):
            amounts = ones(len(readings)) if seed % 2 else random_amounts(seed, len(readings))
            self._check_mending(readings, amounts)

    def test_mending_with_amounts(self):
        self._check_mending(THRICE, row_of(3, 1, 1))
        self._check_mending(THRICE, row_of(2, 1, 1))
        self._check_mending(STRAIGHT, row_of(1, 2, 3, 2, 1))
        self._check_mending(STRAIGHT, row_of(Fraction(1, 2), 2, Fraction(1, 3), 1, 1))

    def test_shares_beside_1(self):
        for more, mends in ((-1, True), (0, False), (1, False)):
            amounts = row_of(Fraction(2 * FAR + more, FAR), 1, 1)
            self.assertIs(does_mend(THRICE, amounts, 1), mends)
            self.assertTrue(same(reading_share(THRICE, amounts, 1), pair(Fraction(2 * FAR + more, 2 * FAR))))
            self.assertEqual(barring_fit(THRICE, amounts, 1) is None, mends)
            if mends:
                self.assertTrue(same(reading_factor(THRICE, amounts, 1), pair(4 * FAR - 1)))
            else:
                self._refuses(reading_factor, THRICE, amounts, 1)
            self._check_mending(THRICE, amounts)

    def test_the_same_number_read_many_times(self):
        for many in range(1, 9):
            readings = ((TWO,),) * many
            self.assertTrue(same(most_wrong(readings, ones(many)), (many - 1) // 2))
            self.assertTrue(same(most_told_wrong(readings), (many - 1) // 2))
            values = [7, -3, 5, 0, 12, 4, 4, 9][:many]
            fit = cheapest_fit(readings, ones(many), row_of(*values))
            middle = sorted(values)[(many - 1) // 2:many // 2 + 1]
            self.assertTrue(middle[0] <= 2 * Fraction(*fit[0]) <= middle[-1])
            self.assertIs(is_only_fit(readings, ones(many), row_of(*values)), middle[0] == middle[-1])

    def _check_fit(self, readings, amounts, values):
        """A fit that costs least, held against the cheapest rows with the sums of the values."""
        table = sums_for(readings)
        corners = searched_corners(table, amounts, row_of(*plain_sums(table, values)))
        fit = cheapest_fit(readings, amounts, values)
        self.assertTrue(is_told_row(fit, len(readings[0])))
        self.assertEqual(fit_cost(readings, amounts, fit, values), plain_cost(amounts, corners[0]), (readings, values))
        self.assertIs(is_only_fit(readings, amounts, values), len(corners) == 1, (readings, amounts, values))
        return fit

    def test_fits_that_cost_least(self):
        several = 0
        for seed, readings in enumerate(many_readings(40)):
            many = len(readings)
            for amounts in (ones(many), random_amounts(seed, many)):
                values = random_row(seed, many, (-3, -1, 0, 0, 1, 2, 5))
                self._check_fit(readings, amounts, values)
                several += not is_only_fit(readings, amounts, values)
        self.assertGreater(several, 15)

    def test_fits_are_the_only_ones_by_the_least_rows(self):
        for seed, readings in enumerate(many_readings(20)):
            many = len(readings)
            amounts, values = random_amounts(seed, many), random_row(seed + 7, many)
            left = deviations(readings, cheapest_fit(readings, amounts, values), values)
            signs = [(top > 0) - (top < 0) for top, _ in left]
            pairs = [signed_and_off(amounts, row, signs) for row in least_rows(readings)]
            self.assertTrue(all(gained <= elsewhere for gained, elsewhere in pairs))
            only = all(gained < elsewhere for gained, elsewhere in pairs)
            self.assertIs(is_only_fit(readings, amounts, values), only)

    def test_values_that_a_fit_tells(self):
        for seed, readings in enumerate(many_readings(30)):
            many, width = len(readings), len(readings[0])
            fit = random_row(seed, width, (-3, -1, 0, 2, 5))
            values = row_of(*plain_sums(readings, fit))
            amounts = random_amounts(seed, many)
            self.assertTrue(same(cheapest_fit(readings, amounts, values), fit))
            self.assertIs(is_only_fit(readings, amounts, values), True)

    def test_as_many_rows_as_columns(self):
        for seed in range(40):
            width = 1 + seed % 4
            readings = random_readings(seed, width, width)
            values = random_row(seed, width)
            fit = cheapest_fit(readings, ones(width), values)
            self.assertEqual(plain_sums(readings, fit), numbers_of(values))
            self.assertIs(is_only_fit(readings, ones(width), values), True)
            self.assertTrue(same(least_rows(readings), tuple(reversed(sorted(identity(width))))))
            self.assertTrue(same(most_wrong(readings, ones(width)), 0))
            self.assertIsNone(reading_share(readings, ones(width), 1))

    def test_a_row_of_noughts(self):
        readings = table_of([0, 0], [1, 0], [0, 1], [1, 1], [1, -1])
        self.assertTrue(all(row[0] == NIL for row in least_rows(readings)))
        for value in (0, 1, -7):
            values = row_of(value, 2, 3, 5, -1)
            self.assertTrue(same(cheapest_fit(readings, ALIKE, values), row_of(2, 3)))
            self.assertIs(is_only_fit(readings, ALIKE, values), True)
        self._check_mending(readings, ALIKE)

    def test_several_fits_that_cost_least(self):
        readings = table_of([1], [1])
        self.assertIs(is_only_fit(readings, row_of(1, 1), row_of(1, 2)), False)
        self.assertIs(is_only_fit(readings, row_of(1, 1), row_of(2, 2)), True)
        self.assertIs(is_only_fit(readings, row_of(1, Fraction(FAR + 1, FAR)), row_of(1, 2)), True)
        self.assertTrue(same(cheapest_fit(readings, row_of(1, Fraction(FAR + 1, FAR)), row_of(1, 2)), (TWO,)))
        self.assertTrue(same(cheapest_fit(readings, row_of(1, Fraction(FAR - 1, FAR)), row_of(1, 2)), (ONE,)))
        self._check_fit(STRAIGHT, ALIKE, row_of(0, 1, 0, 1, 0))
        self._check_fit(STRAIGHT[:4], ALIKE[:4], row_of(0, 1, 1, 0))
        self.assertIs(is_only_fit(STRAIGHT[:4], ALIKE[:4], row_of(0, 1, 1, 0)), False)

    def test_mended_values_are_put_right(self):
        put_right = 0
        for seed, readings in enumerate(many_readings(60)):
            many, width = len(readings), len(readings[0])
            amounts = ones(many) if seed % 2 else random_amounts(seed, many)
            count = most_wrong(readings, amounts)
            if count == 0:
                continue
            fit = random_row(seed, width, (-3, -1, 0, 2, 5))
            for lot in combinations(range(many), count):
                values = plain_sums(readings, fit)
                for place in lot:
                    values[place] += (-1) ** place * (seed % 7 + 1)
                put_right += 1
                self.assertTrue(same(cheapest_fit(readings, amounts, row_of(*values)), fit))
                self.assertIs(is_only_fit(readings, amounts, row_of(*values)), True)
        self.assertGreater(put_right, 100)

    def test_the_factor_holds_and_is_reached(self):
        reached = 0
        for seed, readings in enumerate(many_readings(40)):
            many, width = len(readings), len(readings[0])
            amounts = ones(many) if seed % 2 else random_amounts(seed, many)
            for count in range(most_wrong(readings, amounts) + 1):
                times = Fraction(*reading_factor(readings, amounts, count))
                for again in range(4):
                    one, other = random_row(seed + again, width), random_row(seed + again + 50, width)
                    values = random_row(seed + 3 * again, many)
                    apart, bound = self._apart(readings, amounts, count, one, other, values)
                    self.assertLessEqual(apart, times * bound)
                reached += self._reaches(readings, amounts, count, times)
        self.assertGreater(reached, 60)

    def _apart(self, readings, amounts, count, one, other, values):
        left = deviations(readings, one, values)
        _, beyond = dearest_and_others(amounts, left, count)
        bound = fit_cost(readings, amounts, other, values) - plain_cost(amounts, left) + 2 * beyond
        apart = plain_cost(amounts, row_of(*plain_sums(readings, row_plus(one, opposite(other)))))
        return apart, bound

    def _reaches(self, readings, amounts, count, times):
        """Whether some least row reaches the factor, as point 29 says."""
        width = len(readings[0])
        for row in least_rows(readings):
            fit = cheapest_fit(readings, amounts, row)
            self.assertEqual(row_of(*plain_sums(readings, fit)), row)
            ranked = sorted(range(len(row)), key=lambda k: plain_cost((amounts[k],), (row[k],)), reverse=True)
            values = tuple(number if k in ranked[:count] else NIL for k, number in enumerate(row))
            apart, bound = self._apart(readings, amounts, count, (NIL,) * width, fit, values)
            if apart == times * bound:
                return True
        self.fail((readings, amounts, count))

    def test_count_0_and_counts_above_the_rows(self):
        for readings in SPECIAL:
            amounts = ones(len(readings))
            self.assertIs(does_mend(readings, amounts, 0), True)
            self.assertIsNone(barring_fit(readings, amounts, 0))
            self.assertTrue(same(reading_share(readings, amounts, 0), NIL))
            self.assertTrue(same(reading_factor(readings, amounts, 0), ONE))
            for count in range(len(readings), 9):
                self.assertIs(does_mend(readings, amounts, count), False)
                self.assertIsNone(reading_share(readings, amounts, count))
                self.assertIsNotNone(barring_fit(readings, amounts, count))

    def test_long_numbers(self):
        for many, width, figures in ((3, 1, 300), (4, 2, 300), (5, 3, 100), (8, 4, 40)):
            readings = long_numbers_table(width, many, width, figures)
            self.assertIs(is_readings(readings), True)
            self._check_told(readings)
            self._check_mending(readings, long_amounts(many))
            values = row_of(*[Fraction(LONG + place, 3 ** place) for place in range(many)])
            self._check_fit(readings, long_amounts(many), values)
            self.assertTrue(same(least_rows(readings), searched_least(sums_for(readings))))

    def test_long_numbers_in_the_widest(self):
        readings = long_numbers_table(2, 8, 4, 300)
        values = row_of(*plain_sums(readings, row_of(1, 2, LONG, Fraction(1, LONG))))
        amounts = long_amounts(8)
        self.assertTrue(same(cheapest_fit(readings, amounts, values), row_of(1, 2, LONG, Fraction(1, LONG))))
        self.assertTrue(same(most_told_wrong(readings), 2))
        self.assertEqual(len(least_rows(readings)), 56)
        self.assertEqual(does_mend(readings, amounts, 1), barring_fit(readings, amounts, 1) is None)

    def test_what_is_told_may_be_passed(self):
        for readings in (STRAIGHT, long_numbers_table(2, 4, 2)):
            many = len(readings)
            told = least_rows(readings)[:2]
            turned = tuple(zip(*told))
            self.assertIs(is_readings(turned), True)
            self._check_told(turned)
            self._check_mending(turned, long_amounts(many))
            fit = barring_fit(readings, ones(many), 8)
            values = row_of(*plain_sums(readings, fit))
            self.assertTrue(same(cheapest_fit(readings, ones(many), values), fit))
            self._check_fit(readings, ones(many), told[0])

    def test_by_name(self):
        self.assertIs(is_readings(value=THRICE), True)
        self.assertTrue(same(least_rows(readings=THRICE), (EVEN,)))
        self.assertTrue(same(most_told_wrong(readings=THRICE), 1))
        self.assertTrue(same(most_seen(readings=THRICE), 2))
        self.assertIs(does_mend(count=2, amounts=ALIKE, readings=STRAIGHT), False)
        self.assertTrue(same(most_wrong(amounts=EVEN, readings=THRICE), 1))
        self.assertIsNone(barring_fit(count=1, amounts=ALIKE, readings=STRAIGHT))
        values = row_of(1, 2, 9)
        self.assertTrue(same(cheapest_fit(values=values, amounts=EVEN, readings=THRICE), (TWO,)))
        self.assertIs(is_only_fit(values=values, amounts=EVEN, readings=THRICE), True)
        self.assertTrue(same(reading_share(count=1, amounts=ALIKE, readings=STRAIGHT), (3, 4)))
        self.assertTrue(same(reading_factor(count=1, amounts=ALIKE, readings=STRAIGHT), (7, 1)))
        self._refuses(reading_factor, count=2, amounts=ALIKE, readings=STRAIGHT)

    def test_equal_calls(self):
        values = row_of(0, 1, 2, 9, 4)
        calls = (
            (is_readings, ()), (least_rows, ()), (most_told_wrong, ()), (most_seen, ()), (does_mend, (ALIKE, 1)),
            (most_wrong, (ALIKE,)), (barring_fit, (ALIKE, 2)), (cheapest_fit, (ALIKE, values)),
            (is_only_fit, (ALIKE, values)), (reading_share, (ALIKE, 1)), (reading_factor, (ALIKE, 1)),
        )
        first = [function(STRAIGHT, *rest) for function, rest in calls]
        least_rows(THRICE)
        again = [function(tuple(list(STRAIGHT)), *rest) for function, rest in calls]
        self.assertTrue(same(first, again))

    def test_defined_in_the_file_of_readings(self):
        for function in (
            is_readings, least_rows, most_told_wrong, most_seen, does_mend, most_wrong, barring_fit, cheapest_fit,
            is_only_fit, reading_share, reading_factor,
        ):
            self.assertEqual(function.__module__, "fewtold.readings")


if __name__ == "__main__":
    unittest.main()
