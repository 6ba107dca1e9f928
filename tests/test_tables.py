"""Tables, sums, free lots."""

import random
import unittest
from fractions import Fraction

from fewtold.dependences import least_dependences
from fewtold.tables import is_free, is_table, sums_of
from tests.support import (
    LESS, LONG, NIL, NO_FRACTIONS, NO_TUPLES, ONE, SPECIAL, STEPS, THREE, TWO, WIDE, identity, lots_of, many_tables,
    no_tables, pair, plain_sums, random_table, rank_on, row_of, same, shapes, table_of, with_item,
)


class IsTableTest(unittest.TestCase):
    def test_examples(self):
        self.assertIs(is_table(WIDE), True)
        self.assertIs(is_table(((ONE,), (ONE, TWO))), False)

    def test_all_right_shapes(self):
        for seed, (height, many) in enumerate(shapes()):
            self.assertIs(is_table(random_table(seed, height, many)), True)
            self.assertIs(is_table(((NIL,) * many,) * height), True)

    def test_all_wrong_shapes(self):
        for height in range(10):
            for many in range(11):
                right = 1 <= height <= 6 and 1 <= many <= 8
                self.assertIs(is_table(((ONE,) * many,) * height), right, (height, many))

    def test_long_numbers(self):
        self.assertIs(is_table(table_of([LONG, -LONG], [Fraction(1, LONG), Fraction(-LONG, LONG - 1)])), True)
        self.assertIs(is_table((((LONG, 1),),)), True)
        self.assertIs(is_table((((LONG, 10),),)), False)
        self.assertIs(is_table((((LONG + 2, LONG - 2),),)), False)

    def test_rows_of_unlike_lengths(self):
        for height in range(2, 7):
            for at in range(height):
                table = ((ONE,) * 4,) * height
                self.assertIs(is_table(with_item(table, at, (ONE,) * 3)), False)
                self.assertIs(is_table(with_item(table, at, (ONE,) * 5)), False)
                self.assertIs(is_table(with_item(table, at, ())), False)

    def test_no_tables(self):
        for table in (WIDE, STEPS, table_of([5]), table_of([1, 2]), random_table(3, 6, 8)):
            for value in no_tables(table):
                self.assertIs(is_table(value), False, repr(value)[:200])
            self.assertIs(is_table(table), True)

    def test_no_fraction_in_a_table_of_one(self):
        for value in NO_FRACTIONS:
            self.assertIs(is_table(((value,),)), False, repr(value)[:200])
        for value in NO_TUPLES:
            self.assertIs(is_table(value), False)

    def test_right_fractions_in_a_table_of_one(self):
        for top in range(-6, 7):
            for bottom in range(1, 7):
                value = (top, bottom)
                self.assertIs(is_table(((value,),)), value == pair(Fraction(top, bottom)), value)
                self.assertIs(is_table((((top, -bottom),),)), False)
            self.assertIs(is_table((((top, 0),),)), False)

    def test_flags_are_no_numbers_even_after_the_table_they_equal(self):
        self.assertIs(is_table(((ONE, NIL),)), True)
        self.assertIs(is_table((((True, 1), NIL),)), False)
        self.assertIs(is_table(((ONE, (False, 1)),)), False)
        self.assertIs(is_table(((ONE, (0, True)),)), False)
        self.assertIs(is_table(((ONE, NIL),)), True)

    def test_values_are_left_as_they_are(self):
        value = [[[1, 1], [2, 4]], {"a": [1]}]
        self.assertIs(is_table(value), False)
        self.assertEqual(value, [[[1, 1], [2, 4]], {"a": [1]}])

    def test_by_name(self):
        self.assertIs(is_table(value=WIDE), True)
        self.assertIs(is_table(value=None), False)

    def test_deep_values(self):
        deep = ONE
        for _ in range(12):
            deep = (deep,)
        self.assertIs(is_table(deep), False)


class SumsTest(unittest.TestCase):
    def test_example(self):
        self.assertTrue(same(sums_of(WIDE, (ONE, TWO, NIL, THREE)), ((4, 1), (-1, 1))))

    def test_by_hand(self):
        table = table_of([Fraction(1, 2), Fraction(1, 3)], [2, -3], [0, 0])
        self.assertTrue(same(sums_of(table, row_of(1, 1)), row_of(Fraction(5, 6), -1, 0)))
        self.assertTrue(same(sums_of(table, row_of(2, 3)), row_of(2, -5, 0)))
        self.assertTrue(same(sums_of(table, row_of(Fraction(-1, 2), 0)), row_of(Fraction(-1, 4), -1, 0)))
        self.assertTrue(same(sums_of(((TWO,),), ((1, 2),)), (ONE,)))
        self.assertTrue(same(sums_of(((TWO,),), ((-1, 2),)), (LESS,)))

    def test_noughts(self):
        for table in SPECIAL:
            noughts = (NIL,) * len(table[0])
            self.assertTrue(same(sums_of(table, noughts), (NIL,) * len(table)))
        self.assertTrue(same(sums_of(table_of([0, 0], [0, 0]), row_of(3, 4)), (NIL, NIL)))

    def test_each_place_alone_tells_its_column(self):
        for table in many_tables():
            many = len(table[0])
            for place in range(many):
                row = with_item((NIL,) * many, place, ONE)
                self.assertTrue(same(sums_of(table, row), tuple(line[place] for line in table)))

    def test_any_rows(self):
        source = random.Random(7)
        for table in many_tables():
            for _ in range(4):
                row = row_of(*[Fraction(source.randint(-9, 9), source.randint(1, 9)) for _ in table[0]])
                self.assertTrue(same(sums_of(table, row), row_of(*plain_sums(table, row))))

    def test_long_numbers(self):
        table = table_of([LONG, Fraction(1, LONG)], [Fraction(LONG - 1, LONG), 1])
        row = row_of(Fraction(1, LONG - 2), LONG)
        self.assertTrue(same(sums_of(table, row), row_of(*plain_sums(table, row))))
        told = sums_of(table, sums_of(table, row))
        self.assertTrue(same(told, row_of(*plain_sums(table, row_of(*plain_sums(table, row))))))

    def test_by_name(self):
        row = (ONE, TWO, NIL, THREE)
        want = ((4, 1), (-1, 1))
        self.assertTrue(same(sums_of(table=WIDE, row=row), want))
        self.assertTrue(same(sums_of(row=row, table=WIDE), want))
        self.assertTrue(same(sums_of(WIDE, row=row), want))

    def test_equal_calls(self):
        row = (ONE, TWO, NIL, THREE)
        first = sums_of(WIDE, row)
        sums_of(STEPS, row)
        self.assertTrue(same(first, sums_of(tuple(list(WIDE)), tuple(list(row)))))
        self.assertEqual((WIDE, row), (((ONE, NIL, ONE, ONE), (NIL, ONE, ONE, LESS)), (ONE, TWO, NIL, THREE)))


class IsFreeTest(unittest.TestCase):
    def test_examples(self):
        self.assertIs(is_free(WIDE, (0, 3)), True)
        self.assertIs(is_free(WIDE, (0, 1, 2)), False)

    def test_no_places_are_free(self):
        for table in many_tables():
            self.assertIs(is_free(table, ()), True)

    def test_all_columns(self):
        self.assertIs(is_free(identity(6), (0, 1, 2, 3, 4, 5)), True)
        self.assertIs(is_free(STEPS, (0, 1, 2, 3)), False)
        self.assertIs(is_free(table_of([1, 2], [2, 4], [3, 6]), (0, 1)), False)
        self.assertIs(is_free(table_of([1, 2], [2, 4], [3, 7]), (0, 1)), True)
        self.assertIs(is_free(table_of([3]), (0,)), True)
        self.assertIs(is_free(table_of([0]), (0,)), False)

    def test_columns_of_noughts(self):
        table = table_of([1, 0, 0], [0, 0, 1])
        self.assertIs(is_free(table, (1,)), False)
        self.assertIs(is_free(table, (0, 1)), False)
        self.assertIs(is_free(table, (0, 2)), True)

    def test_rows_of_noughts_and_equal_rows(self):
        table = table_of([0, 0, 0], [1, 2, 3], [1, 2, 3])
        self.assertIs(is_free(table, (2,)), True)
        self.assertIs(is_free(table, (0, 2)), False)

    def test_multiples_and_sums_of_columns(self):
        table = table_of([1, -2, 0, 1], [3, -6, 1, 4], [Fraction(1, 2), -1, 5, Fraction(11, 2)])
        self.assertIs(is_free(table, (0, 1)), False)
        self.assertIs(is_free(table, (0, 2)), True)
        self.assertIs(is_free(table, (0, 3)), True)
        self.assertIs(is_free(table, (2, 3)), True)
        self.assertIs(is_free(table, (0, 2, 3)), False)

    def test_all_lots(self):
        for table in many_tables():
            for lot in lots_of(len(table[0]), 5):
                self.assertIs(is_free(table, lot), rank_on(table, lot) == len(lot), (table, lot))

    def test_all_lots_of_the_widest(self):
        for table in (random_table(1, 6, 8), SPECIAL[17], random_table(2, 6, 8, (-1, 0, 1), (1,))):
            for lot in lots_of(8):
                self.assertIs(is_free(table, lot), rank_on(table, lot) == len(lot))

    def test_free_exactly_if_it_holds_no_least_dependence(self):
        for table in SPECIAL:
            known = [[place for place, number in enumerate(row) if number != NIL] for row in least_dependences(table)]
            for lot in lots_of(len(table[0])):
                self.assertIs(is_free(table, lot), not any(set(places) <= set(lot) for places in known))

    def test_hardly_free(self):
        table = table_of([1, Fraction(LONG - 1, LONG)], [1, Fraction(LONG - 2, LONG - 1)])
        self.assertIs(is_free(table, (0, 1)), True)
        table = table_of([1, Fraction(LONG - 1, LONG)], [LONG, LONG - 1])
        self.assertIs(is_free(table, (0, 1)), False)

    def test_by_name(self):
        self.assertIs(is_free(table=WIDE, lot=(0, 3)), True)
        self.assertIs(is_free(lot=(0, 1, 2), table=WIDE), False)
        self.assertIs(is_free(WIDE, lot=(0, 3)), True)

    def test_equal_calls(self):
        for lot in ((0, 3), (0, 1, 2)):
            first = is_free(WIDE, lot)
            is_free(STEPS, lot)
            self.assertIs(is_free(WIDE, lot), first)


class PlacesTest(unittest.TestCase):
    def test_defined_in_the_file_of_tables(self):
        for function in (is_table, sums_of, is_free):
            self.assertEqual(function.__module__, "fewtold.tables")


if __name__ == "__main__":
    unittest.main()
