"""Refused arguments: the class of the error, what it keeps, and which argument is first."""

import copy
import unittest

from fewtold.dependences import is_dependence, least_dependences, parts_of
from fewtold.errors import InvalidCount, InvalidLot, InvalidRow, InvalidTable, NotDependent
from fewtold.tables import is_free, sums_of
from fewtold.told import is_told, most_told, twin_rows
from tests.support import (
    LESS, NIL, NO_COUNTS, ONE, STEPS, WIDE, no_lots, no_rows, no_tables, random_table, row_of, same, table_of,
    with_item,
)

OF_TABLE = (least_dependences, most_told)
OF_ROW = (sums_of, is_dependence, parts_of)
OF_LOT = (is_free,)
OF_COUNT = (is_told, twin_rows)
TABLES = (WIDE, STEPS, table_of([0]), table_of([1, 1]), table_of([1, 1], [2, 2], [3, 3]), random_table(3, 6, 8))
SECOND = [(f, "row") for f in OF_ROW] + [(f, "lot") for f in OF_LOT] + [(f, "count") for f in OF_COUNT]


def right_second(name, table):
    return {"row": least_dependences(table)[0], "lot": (0,), "count": 1}[name]


class RefusedTest(unittest.TestCase):
    def _refuses(self, kind, attribute, want, function, *arguments, **named):
        with self.assertRaises(kind) as caught:
            function(*arguments, **named)
        self.assertIs(type(caught.exception), kind)
        if attribute == "given":
            self.assertTrue(caught.exception.given is want)
        elif attribute == "index":
            got = caught.exception.index
            self.assertTrue(same(got, want), (function.__name__, repr(arguments[1:])[:300], got, want))

    def test_no_tables(self):
        for table in TABLES:
            seconds = [(function, right_second(name, table)) for function, name in SECOND]
            for value in no_tables(table):
                for function in OF_TABLE:
                    self._refuses(InvalidTable, "given", value, function, value)
                for function, second in seconds:
                    self._refuses(InvalidTable, "given", value, function, value, second)

    def test_no_tables_by_name(self):
        for value in no_tables(WIDE):
            for function in OF_TABLE:
                self._refuses(InvalidTable, "given", value, function, table=value)
            for function, name in SECOND:
                named = {name: right_second(name, WIDE), "table": value}
                self._refuses(InvalidTable, "given", value, function, **named)

    def test_no_rows(self):
        for table in TABLES:
            for value, index in no_rows(len(table[0])):
                for function in OF_ROW:
                    self._refuses(InvalidRow, "index", index, function, table, value)

    def test_no_rows_by_name(self):
        for value, index in no_rows(4):
            for function in OF_ROW:
                self._refuses(InvalidRow, "index", index, function, row=value, table=WIDE)

    def test_rows_as_long_as_the_table_is_high(self):
        for function in OF_ROW:
            self._refuses(InvalidRow, "index", None, function, WIDE, (NIL, NIL))
            self._refuses(InvalidRow, "index", None, function, STEPS, (NIL, NIL, NIL))
            self._refuses(InvalidRow, "index", None, function, table_of([0], [0], [0]), (NIL, NIL, NIL))

    def test_no_lots(self):
        for table in TABLES:
            for value, index in no_lots(len(table[0])):
                self._refuses(InvalidLot, "index", index, is_free, table, value)

    def test_no_lots_by_name(self):
        for value, index in no_lots(4):
            self._refuses(InvalidLot, "index", index, is_free, lot=value, table=WIDE)

    def test_lots_are_of_columns_not_of_rows(self):
        self._refuses(InvalidLot, "index", 1, is_free, table_of([1], [2], [3]), (0, 1))
        self._refuses(InvalidLot, "index", 0, is_free, table_of([1], [2], [3]), (1,))
        self.assertIs(is_free(WIDE, (3,)), True)

    def test_the_wrong_element_of_a_lot_that_is_not_free(self):
        self._refuses(InvalidLot, "index", 3, is_free, WIDE, (0, 1, 2, 2))
        self._refuses(InvalidLot, "index", 4, is_free, WIDE, (0, 1, 2, 3, 4))
        self._refuses(InvalidLot, "index", 1, is_free, table_of([0, 0]), (0, 2))

    def test_no_counts(self):
        for table in TABLES:
            for value in NO_COUNTS:
                for function in OF_COUNT:
                    self._refuses(InvalidCount, "given", value, function, table, value)

    def test_no_counts_by_name(self):
        for value in NO_COUNTS:
            for function in OF_COUNT:
                self._refuses(InvalidCount, "given", value, function, count=value, table=WIDE)

    def test_counts_above_the_columns_are_let_in(self):
        for table in TABLES:
            for count in range(9):
                is_told(table, count)
                twin_rows(table, count)
        self.assertIs(is_told(table_of([1]), 8), True)
        self.assertIs(is_told(table_of([0]), 8), False)

    def test_flags_are_refused_after_the_numbers_they_equal(self):
        for table in (WIDE, STEPS):
            for count in (0, 1):
                for function in OF_COUNT:
                    function(table, count)
                    flag = bool(count)
                    self._refuses(InvalidCount, "given", flag, function, table, flag)
            is_free(table, (0, 1))
            self._refuses(InvalidLot, "index", 1, is_free, table, (0, True))
            self._refuses(InvalidLot, "index", 0, is_free, table, (False, 1))
            row = least_dependences(table)[0]
            for function in OF_ROW:
                function(table, row)
                self._refuses(InvalidRow, "index", 0, function, table, with_item(row, 0, (True, 1)))
            bent = with_item(table, 0, with_item(table[0], 0, (True, 1)))
            self.assertEqual(bent, table)
            for function in OF_TABLE:
                function(table)
                self._refuses(InvalidTable, "given", bent, function, bent)
            for function, name in SECOND:
                self._refuses(InvalidTable, "given", bent, function, bent, right_second(name, table))

    def test_the_table_is_first(self):
        wrong = {"row": (None, (NIL,), ((2, 2),) * 4), "lot": (None, (9,), (1, 0)), "count": (None, 9, True)}
        for table in ((), None, (row_of(1), row_of(1, 2)), (((1, True),),), [[ONE]], list(WIDE)):
            for function, name in SECOND:
                for value in wrong[name]:
                    self._refuses(InvalidTable, "given", table, function, table, value)
                    self._refuses(InvalidTable, "given", table, function, **{name: value, "table": table})

    def test_not_dependent_is_last(self):
        unlike = row_of(1, 1, 1, 1)
        self._refuses(NotDependent, None, None, parts_of, WIDE, unlike)
        self._refuses(NotDependent, None, None, parts_of, WIDE, (NIL,) * 4)
        self._refuses(InvalidTable, "given", None, parts_of, None, unlike)
        self._refuses(InvalidRow, "index", None, parts_of, WIDE, unlike[:3])
        self._refuses(InvalidRow, "index", None, parts_of, WIDE, (NIL,) * 5)
        self._refuses(InvalidRow, "index", 3, parts_of, WIDE, with_item(unlike, 3, (2, 2)))
        self._refuses(InvalidRow, "index", 0, parts_of, WIDE, ((0, 2), NIL, NIL, NIL))
        self._refuses(InvalidRow, "index", 2, parts_of, WIDE, (ONE, ONE, (-1, True), NIL))

    def test_wrong_arguments_are_left_as_they_are(self):
        table = [[[1, 1], [2, 4]], [(1, 1)]]
        kept = copy.deepcopy(table)
        for function in OF_TABLE:
            self._refuses(InvalidTable, "given", table, function, table)
        for function, name in SECOND:
            self._refuses(InvalidTable, "given", table, function, table, right_second(name, WIDE))
        self.assertEqual(table, kept)
        row = [ONE, [1, 2], (2, 4), LESS]
        kept = copy.deepcopy(row)
        for function in OF_ROW:
            self._refuses(InvalidRow, "index", None, function, WIDE, row)
        lot = [2, 1, 0]
        self._refuses(InvalidLot, "index", None, is_free, WIDE, lot)
        self.assertEqual((row, lot), (kept, [2, 1, 0]))


if __name__ == "__main__":
    unittest.main()
