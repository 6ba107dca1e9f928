"""Refused arguments of what is told by costs, signs and signs of numbers: which error, and what it keeps."""

import copy
import unittest

from fewtold.above import (
    cheap_dependence, facing_row, is_back_above, is_lot_above, is_only_above, low_dependence, most_above,
    most_back_above, power_table,
)
from fewtold.back import barring_dependence, factor, is_back, letting_amounts, most_back, share, worst_rows
from fewtold.cheapest import (
    cheaper_dependence, cheapest_corners, cheapest_row, is_cheapest, is_only_cheapest, least_cost, price_row,
    showing_row,
)
from fewtold.errors import (
    FewError, InvalidAmounts, InvalidCount, InvalidLot, InvalidNumber, InvalidPlaces, InvalidRow, InvalidSigns,
    InvalidTable, NoRow, NotBack,
)
from fewtold.signs import is_lot_back, is_signed_back, lost_row, lot_share, lots_back, signed_back, signed_share
from tests.reckoning import ones
from tests.support import (
    LESS, NIL, NO_COUNTS, NO_NUMBERS, ONE, STEPS, TWO, WIDE, no_amounts, no_lots, no_places, no_rows, no_signs,
    no_tables, random_table, row_of, same, table_of, with_item,
)

SIGNATURES = (
    (most_back, ("table", "amounts")),
    (is_back, ("table", "amounts", "count")),
    (barring_dependence, ("table", "amounts", "count")),
    (share, ("table", "amounts", "count")),
    (factor, ("table", "amounts", "count")),
    (worst_rows, ("table", "amounts", "count")),
    (letting_amounts, ("table", "count")),
    (least_cost, ("table", "amounts", "sums")),
    (cheapest_row, ("table", "amounts", "sums")),
    (cheapest_corners, ("table", "amounts", "sums")),
    (price_row, ("table", "amounts", "sums")),
    (is_cheapest, ("table", "amounts", "row")),
    (is_only_cheapest, ("table", "amounts", "row")),
    (showing_row, ("table", "amounts", "row")),
    (cheaper_dependence, ("table", "amounts", "row")),
    (is_signed_back, ("table", "amounts", "signs")),
    (signed_share, ("table", "amounts", "signs")),
    (signed_back, ("table", "amounts", "lot")),
    (is_lot_back, ("table", "amounts", "lot")),
    (lot_share, ("table", "amounts", "lot")),
    (lost_row, ("table", "amounts", "lot")),
    (lots_back, ("table", "amounts", "count")),
    (is_only_above, ("table", "count")),
    (most_above, ("table",)),
    (low_dependence, ("table", "count")),
    (is_lot_above, ("table", "lot")),
    (facing_row, ("table", "lot")),
    (is_back_above, ("table", "amounts", "count")),
    (most_back_above, ("table", "amounts")),
    (cheap_dependence, ("table", "amounts", "count")),
    (power_table, ("places", "many")),
)
ERRORS = {
    "table": InvalidTable, "amounts": InvalidAmounts, "count": InvalidCount, "sums": InvalidRow, "row": InvalidRow,
    "signs": InvalidSigns, "lot": InvalidLot, "places": InvalidPlaces, "many": InvalidNumber,
}
TABLES = (WIDE, STEPS, table_of([0]), table_of([1], [2], [3]), table_of([1, 1], [2, 2], [3, 3]))
WIDEST = random_table(3, 6, 8)


def right_ones(table):
    """A right value for each parameter, for a table."""
    many = len(table[0])
    return {
        "table": table, "amounts": ones(many), "count": 0, "sums": (NIL,) * len(table), "row": (ONE,) * many,
        "signs": (1,) + (0,) * (many - 1), "lot": (0,), "places": (NIL, ONE), "many": 2,
    }


def wrong_ones(name, table):
    """Pairs of a wrong value for a parameter, for a table, and what the error keeps: given or index."""
    many = len(table[0])
    if name == "table":
        return [(value, value) for value in no_tables(table)]
    if name in ("count", "many"):
        return [(value, value) for value in (NO_COUNTS if name == "count" else NO_NUMBERS)]
    if name == "sums":
        return no_rows(len(table))
    if name == "places":
        return no_places()
    return {"amounts": no_amounts, "row": no_rows, "signs": no_signs, "lot": no_lots}[name](many)


class RefusedTest(unittest.TestCase):
    def _refuses(self, name, keeps, function, *arguments, **named):
        with self.assertRaises(FewError) as caught:
            function(*arguments, **named)
        error = caught.exception
        self.assertIs(type(error), ERRORS[name], (function.__name__, name, repr(keeps)[:200]))
        if name in ("table", "count", "many"):
            self.assertIs(error.given, keeps)
            self.assertFalse(hasattr(error, "index"))
        else:
            self.assertTrue(same(error.index, keeps), (function.__name__, repr(arguments)[:400], error.index, keeps))
            self.assertFalse(hasattr(error, "given"))

    def _check_by_position(self, table, functions):
        right = right_ones(table)
        wrong = {name: wrong_ones(name, table) for name in ERRORS}
        for function, names in functions:
            for name in names:
                for value, keeps in wrong[name]:
                    arguments = [value if other == name else right[other] for other in names]
                    self._refuses(name, keeps, function, *arguments)

    def test_each_parameter_by_position(self):
        for table in TABLES:
            self._check_by_position(table, SIGNATURES)

    def test_each_parameter_for_the_widest(self):
        # One function of each kind: the widest has many numbers that may be wrong.
        self._check_by_position(WIDEST, [pair for pair in SIGNATURES if pair[0] in (share, signed_share, is_lot_back)])

    def test_each_parameter_by_name(self):
        right = right_ones(WIDE)
        for function, names in SIGNATURES:
            for name in names:
                for value, keeps in wrong_ones(name, WIDE):
                    named = {other: value if other == name else right[other] for other in reversed(names)}
                    self._refuses(name, keeps, function, **named)

    def test_the_first_wrong_argument_of_the_signature_is_told(self):
        for table in (WIDE, STEPS):
            right = right_ones(table)
            wrong = {name: wrong_ones(name, table)[-3:] for name in ERRORS}
            for function, names in SIGNATURES:
                for at, name in enumerate(names):
                    for value, keeps in wrong[name]:
                        named = {other: right[other] for other in names[:at]}
                        named[name] = value
                        for other in names[at + 1:]:
                            named[other] = None
                        self._refuses(name, keeps, function, **named)
                        self._refuses(name, keeps, function, *[named[other] for other in names])

    def test_rows_are_as_long_as_the_table_is_wide_and_sums_as_it_is_high(self):
        for function, names in SIGNATURES:
            if "row" in names:
                self._refuses("row", None, function, WIDE, ones(4), (NIL, NIL))
                self._refuses("row", None, function, STEPS, ones(4), (NIL,) * 3)
            if "sums" in names:
                self._refuses("sums", None, function, WIDE, ones(4), (NIL,) * 4)
                self._refuses("sums", None, function, STEPS, ones(4), (NIL,) * 4)
            if "amounts" in names:
                rest = [right_ones(STEPS)[name] for name in names[2:]]
                self._refuses("amounts", None, function, STEPS, ones(3), *rest)

    def test_amounts_are_above_nought(self):
        for function, names in SIGNATURES:
            if "amounts" in names:
                rest = [right_ones(WIDE)[name] for name in names[2:]]
                self._refuses("amounts", 2, function, WIDE, (ONE, ONE, NIL, ONE), *rest)
                self._refuses("amounts", 3, function, WIDE, (ONE, ONE, TWO, LESS), *rest)
                self._refuses("amounts", 0, function, WIDE, (NIL, LESS, None, ONE), *rest)

    def test_flags_are_refused_after_the_numbers_they_equal(self):
        right = right_ones(WIDE)
        flags = {
            "count": ((0, False, False), (1, True, True)), "many": ((1, True, True),),
            "signs": (((1, 0, 0, 0), (1, 0, 0, False), 3), ((1, 0, 0, 0), (True, 0, 0, 0), 0)),
            "lot": (((0, 1), (False, 1), 0), ((0, 1), (0, True), 1)),
            "row": ((ones(4), with_item(ones(4), 2, (1, True)), 2),),
            "amounts": ((ones(4), with_item(ones(4), 1, (True, 1)), 1),),
            "sums": (((NIL, ONE), (NIL, (True, 1)), 1), ((NIL, ONE), ((False, 1), ONE), 0)),
            "places": (((NIL, ONE), ((False, 1), ONE), 0), ((NIL, ONE), (NIL, (1, True)), 1)),
            "table": (),
        }
        for function, names in SIGNATURES:
            for name in names:
                for number, flag, keeps in flags[name]:
                    named = {other: right[other] for other in names}
                    named[name] = number
                    try:
                        function(**named)
                    except NotBack:
                        self.assertEqual(number, 1)
                    named[name] = flag
                    self._refuses(name, keeps, function, **named)

    def test_not_back_is_last(self):
        for function in (factor, worst_rows):
            with self.assertRaises(NotBack):
                function(STEPS, ones(4), 2)
            self._refuses("table", None, function, None, ones(4), 2)
            self._refuses("amounts", 1, function, STEPS, with_item(ones(4), 1, NIL), 2)
            self._refuses("count", 9, function, STEPS, ones(4), 9)
            for count in range(1, 9):
                with self.assertRaises(NotBack) as caught:
                    function(table_of([0]), ones(1), count)
                self.assertIs(type(caught.exception), NotBack)

    def test_no_row_is_last(self):
        table = table_of([1, 1], [2, 2])
        sums = (ONE, ONE)
        for function in (least_cost, cheapest_row, cheapest_corners, price_row):
            with self.assertRaises(NoRow) as caught:
                function(table, ones(2), sums)
            self.assertIs(type(caught.exception), NoRow)
            self._refuses("table", None, function, None, ones(2), sums)
            self._refuses("amounts", 0, function, table, (NIL, ONE), sums)
            self._refuses("sums", 1, function, table, ones(2), (ONE, (2, 2)))
            self._refuses("sums", None, function, table, ones(2), sums + sums)

    def test_counts_above_the_columns_and_lots_that_are_not_free_are_let_in(self):
        for table in TABLES:
            right = right_ones(table)
            for function, names in SIGNATURES:
                named = {name: right[name] for name in names}
                if "lot" in names:
                    named["lot"] = tuple(range(len(table[0])))
                    function(**named)
                if "signs" in names:
                    named["signs"] = (-1,) * len(table[0])
                    function(**named)
                if "count" in names:
                    named["count"] = 8
                    try:
                        function(**named)
                    except NotBack:
                        self.assertIn(function, (factor, worst_rows))

    def test_wrong_arguments_are_left_as_they_are(self):
        right = right_ones(WIDE)
        bent = {
            "table": [[[1, 1], [2, 4]], [(1, 1)]], "amounts": [[1, 1], (2, 4)], "count": [1], "sums": [ONE, [2, 2]],
            "row": [ONE, [1, 2], (2, 4), LESS], "signs": [1, 0, 0, [1]], "lot": [2, 1, 0], "places": [[1, 2], ONE],
            "many": [3],
        }
        kept = copy.deepcopy(bent)
        for function, names in SIGNATURES:
            for name in names:
                named = {other: bent[other] if other == name else right[other] for other in names}
                self._refuses(name, bent[name] if name in ("table", "count", "many") else None, function, **named)
        self.assertEqual(bent, kept)

    def test_places_that_stand_there_already(self):
        self._refuses("places", 2, power_table, row_of(1, 2, 1), 2)
        self._refuses("places", 1, power_table, row_of(0, 0), 2)
        self._refuses("places", 7, power_table, row_of(1, 2, 3, 4, 5, 6, 7, 7), 2)
        self._refuses("places", None, power_table, row_of(1, 2, 3, 4, 5, 6, 7, 7, 8), 2)
        self._refuses("places", None, power_table, (), 0)
        self._refuses("many", 0, power_table, (ONE,), 0)
        self._refuses("many", 7, power_table, (ONE,), 7)


if __name__ == "__main__":
    unittest.main()
