"""Refused arguments of greedy steps, readings and certificates: which error, and what it keeps."""

import copy
import unittest

from fewtold.certificates import (
    certify_above, certify_amounts, certify_back, certify_back_above, certify_cost, certify_factor, certify_greedy,
    certify_lot, certify_lot_above, certify_mending, certify_row, certify_signs, certify_told,
)
from fewtold.errors import (
    FewError, InvalidAmounts, InvalidCount, InvalidLot, InvalidReadings, InvalidRow, InvalidSigns, InvalidTable, NoRow,
    NotBack, NotFree,
)
from fewtold.greedy import greedy_run, greedy_share, is_greedy, most_greedy, pulls, straying_row
from fewtold.readings import (
    barring_fit, cheapest_fit, does_mend, is_only_fit, least_rows, most_seen, most_told_wrong, most_wrong,
    reading_factor, reading_share,
)
from tests.nearest import random_readings
from tests.reckoning import ones
from tests.support import (
    LESS, NIL, NO_COUNTS, ONE, STEPS, TWO, WIDE, no_amounts, no_lots, no_readings, no_rows, no_signs, no_tables,
    random_table, row_of, same, table_of, with_item,
)

OF_TABLES = (
    (pulls, ("table", "left")),
    (greedy_run, ("table", "sums")),
    (greedy_share, ("table", "lot")),
    (is_greedy, ("table", "lot")),
    (straying_row, ("table", "lot")),
    (most_greedy, ("table",)),
    (certify_told, ("table", "count")),
    (certify_back, ("table", "amounts", "count")),
    (certify_factor, ("table", "amounts", "count")),
    (certify_amounts, ("table", "count")),
    (certify_cost, ("table", "amounts", "sums")),
    (certify_row, ("table", "amounts", "row")),
    (certify_signs, ("table", "amounts", "signs")),
    (certify_lot, ("table", "amounts", "lot")),
    (certify_above, ("table", "count")),
    (certify_lot_above, ("table", "lot")),
    (certify_back_above, ("table", "amounts", "count")),
    (certify_greedy, ("table", "lot")),
)
OF_READINGS = (
    (least_rows, ("readings",)),
    (most_told_wrong, ("readings",)),
    (most_seen, ("readings",)),
    (does_mend, ("readings", "amounts", "count")),
    (most_wrong, ("readings", "amounts")),
    (barring_fit, ("readings", "amounts", "count")),
    (cheapest_fit, ("readings", "amounts", "values")),
    (is_only_fit, ("readings", "amounts", "values")),
    (reading_share, ("readings", "amounts", "count")),
    (reading_factor, ("readings", "amounts", "count")),
    (certify_mending, ("readings", "amounts", "count")),
)
ERRORS = {
    "table": InvalidTable, "readings": InvalidReadings, "amounts": InvalidAmounts, "count": InvalidCount,
    "sums": InvalidRow, "left": InvalidRow, "row": InvalidRow, "values": InvalidRow, "signs": InvalidSigns,
    "lot": InvalidLot,
}
GIVEN = ("table", "readings", "count")
TABLES = (WIDE, STEPS, table_of([2]), table_of([1], [2], [3]), table_of([1, 1], [2, 2], [3, 3]), random_table(3, 6, 8))
STRAIGHT = table_of([1, 0], [1, 1], [1, 2], [1, 3], [1, 4])
READINGS = (STRAIGHT, ((ONE,),), ((ONE,),) * 8, table_of([1, 0, 2], [0, 1, 1], [0, 0, 1]), random_readings(5, 8, 4))
FIRST = [(names, function, TABLES) for function, names in OF_TABLES]
FIRST += [(names, function, READINGS) for function, names in OF_READINGS]


def right_ones(name, first):
    """A right value for each parameter, for a table or readings."""
    if name == "readings":
        many = len(first)
        return {"readings": first, "amounts": ones(many), "count": 0, "values": (ONE,) * many}
    many = len(first[0])
    return {
        "table": first, "amounts": ones(many), "count": 0, "sums": (NIL,) * len(first), "left": (ONE,) * len(first),
        "row": (ONE,) * many, "signs": (1,) + (0,) * (many - 1), "lot": (0,),
    }


def wrong_ones(names, name, first):
    """Pairs of a wrong value for a parameter and what the error keeps: given or index."""
    many = len(first) if names[0] == "readings" else len(first[0])
    if name == "table":
        return [(value, value) for value in no_tables(first)]
    if name == "readings":
        return [(value, value) for value in no_readings(first)]
    if name == "count":
        return [(value, value) for value in NO_COUNTS]
    if name in ("sums", "left", "values"):
        return no_rows(len(first))
    return {"amounts": no_amounts, "row": no_rows, "signs": no_signs, "lot": no_lots}[name](many)


class RefusedTest(unittest.TestCase):
    def _refuses(self, name, keeps, function, *arguments, **named):
        with self.assertRaises(FewError) as caught:
            function(*arguments, **named)
        error = caught.exception
        self.assertIs(type(error), ERRORS[name], (function.__name__, name, repr(keeps)[:200]))
        if name in GIVEN:
            self.assertIs(error.given, keeps)
            self.assertFalse(hasattr(error, "index"))
        else:
            self.assertTrue(same(error.index, keeps), (function.__name__, repr(arguments)[:400], error.index, keeps))
            self.assertFalse(hasattr(error, "given"))

    def test_each_parameter_by_position(self):
        for names, function, firsts in FIRST:
            for first in firsts[:-1]:
                right = right_ones(names[0], first)
                for name in names:
                    for value, keeps in wrong_ones(names, name, first):
                        arguments = [value if other == name else right[other] for other in names]
                        self._refuses(name, keeps, function, *arguments)

    def test_each_parameter_for_the_widest(self):
        # One function of each kind: the widest has many numbers that may be wrong.
        for names, function, firsts in FIRST:
            if function not in (pulls, straying_row, certify_signs, reading_share, cheapest_fit):
                continue
            first = firsts[-1]
            right = right_ones(names[0], first)
            for name in names:
                for value, keeps in wrong_ones(names, name, first):
                    arguments = [value if other == name else right[other] for other in names]
                    self._refuses(name, keeps, function, *arguments)

    def test_each_parameter_by_name(self):
        for names, function, firsts in FIRST:
            right = right_ones(names[0], firsts[0])
            for name in names:
                for value, keeps in wrong_ones(names, name, firsts[0]):
                    named = {other: value if other == name else right[other] for other in reversed(names)}
                    self._refuses(name, keeps, function, **named)

    def test_the_first_wrong_argument_of_the_signature_is_told(self):
        for names, function, firsts in FIRST:
            for first in firsts[:2]:
                right = right_ones(names[0], first)
                for at, name in enumerate(names):
                    for value, keeps in wrong_ones(names, name, first)[-3:]:
                        named = {other: right[other] for other in names[:at]}
                        named[name] = value
                        for other in names[at + 1:]:
                            named[other] = None
                        self._refuses(name, keeps, function, **named)
                        self._refuses(name, keeps, function, *[named[other] for other in names])

    def test_lengths(self):
        # Sums and what is left are as long as the table is high, rows and amounts as it is wide.
        for function in (pulls, greedy_run):
            name = "left" if function is pulls else "sums"
            self._refuses(name, None, function, WIDE, (NIL,) * 4)
            self._refuses(name, None, function, STEPS, (NIL,) * 4)
        self._refuses("sums", None, certify_cost, WIDE, ones(4), (NIL,) * 4)
        self._refuses("row", None, certify_row, STEPS, ones(4), (NIL,) * 3)
        self._refuses("signs", None, certify_signs, STEPS, ones(4), (0,) * 3)
        # Amounts and values are as long as the readings are high.
        for function in (does_mend, barring_fit, reading_share, reading_factor, certify_mending):
            self._refuses("amounts", None, function, STRAIGHT, ones(2), 0)
        self._refuses("amounts", None, most_wrong, STRAIGHT, ones(2))
        for function in (cheapest_fit, is_only_fit):
            self._refuses("amounts", None, function, STRAIGHT, ones(2), (NIL,) * 5)
            self._refuses("values", None, function, STRAIGHT, ones(5), (NIL,) * 2)
            self._refuses("values", 4, function, STRAIGHT, ones(5), (NIL,) * 4 + ((2, 2),))

    def test_amounts_are_above_nought(self):
        for names, function, firsts in FIRST:
            if "amounts" in names:
                first = firsts[0]
                right = right_ones(names[0], first)
                for wrong in (NIL, LESS, (0, 2), (-1, 2)):
                    for at in range(4):
                        amounts = with_item(right["amounts"], at, wrong)
                        rest = [right[name] for name in names[2:]]
                        self._refuses("amounts", at, function, first, amounts, *rest)

    def test_flags_are_refused_after_the_numbers_they_equal(self):
        flags = {
            "count": ((False, False), (True, True)), "signs": (((1, 0, 0, False), 3), ((True, 0, 0, 0), 0)),
            "lot": (((False, 1), 0), ((0, True), 1)), "row": ((with_item(ones(4), 2, (1, True)), 2),),
            "sums": (((NIL, (True, 1)), 1), (((False, 1), ONE), 0)), "left": (((NIL, (1, True)), 1),),
            "values": ((with_item(ones(5), 4, (True, 1)), 4),),
        }
        for names, function, firsts in FIRST:
            right = right_ones(names[0], firsts[0])
            for name in names:
                for flag, keeps in flags.get(name, ()):
                    function(*[right[other] for other in names])
                    named = {other: right[other] for other in names}
                    named[name] = flag
                    self._refuses(name, keeps, function, **named)

    def test_what_comes_last(self):
        double, free = table_of([1, 1], [2, 2]), (0, 1)
        for function in (greedy_share, is_greedy, straying_row, certify_greedy):
            with self.assertRaises(NotFree) as caught:
                function(double, free)
            self.assertIs(type(caught.exception), NotFree)
            self._refuses("table", None, function, None, free)
            self._refuses("lot", 2, function, double, free + (1,))
            self._refuses("lot", 2, function, double, free + (2,))
        with self.assertRaises(NoRow) as caught:
            certify_cost(double, ones(2), (ONE, ONE))
        self.assertIs(type(caught.exception), NoRow)
        self._refuses("sums", 1, certify_cost, double, ones(2), (ONE, None))
        self._refuses("amounts", 1, certify_cost, double, (ONE, NIL), (ONE, ONE))
        for function, first, many in ((certify_factor, double, 2), (reading_factor, ((ONE,), (TWO,)), 2)):
            with self.assertRaises(NotBack) as caught:
                function(first, ones(many), 1)
            self.assertIs(type(caught.exception), NotBack)
            self._refuses("count", 9, function, first, ones(many), 9)
            self._refuses("count", True, function, first, ones(many), True)
            self._refuses("amounts", 0, function, first, (NIL, NIL), 9)

    def test_no_error_for_what_is_right(self):
        for table in TABLES:
            many = len(table[0])
            self.assertIsNotNone(most_greedy(table))
            for lot in ((), tuple(range(many))):
                certify_lot(table, ones(many), lot)
                certify_lot_above(table, lot)
            certify_signs(table, ones(many), (-1,) * many)
            for count in range(9):
                for function in (certify_told, certify_amounts, certify_above):
                    function(table, count)
                for function in (certify_back, certify_back_above):
                    function(table, ones(many), count)
        for readings in READINGS:
            for count in range(9):
                certify_mending(readings, ones(len(readings)), count)
                reading_share(readings, ones(len(readings)), count)

    def test_wrong_arguments_are_left_as_they_are(self):
        bent = {
            "table": [[[1, 1], [2, 4]], [(1, 1)]], "amounts": [[1, 1], (2, 4)], "count": [1], "sums": [ONE, [2, 2]],
            "row": [ONE, [1, 2], (2, 4), LESS], "signs": [1, 0, 0, [1]], "lot": [2, 1, 0], "left": [[1, 2], ONE],
            "values": [ONE, [2, 4]], "readings": [[ONE], [[1, 2]]],
        }
        kept = copy.deepcopy(bent)
        for names, function, firsts in FIRST:
            right = right_ones(names[0], firsts[0])
            for name in names:
                named = {other: bent[other] if other == name else right[other] for other in names}
                self._refuses(name, bent[name] if name in GIVEN else None, function, **named)
        self.assertEqual(bent, kept)

    def test_values_that_say_they_are_of_another_class(self):
        class Lying:
            def __init__(self, told):
                self._told = told

            @property
            def __class__(self):
                return self._told

        whole, several = Lying(int), Lying(tuple)
        for names, function, firsts in FIRST:
            right = right_ones(names[0], firsts[0])
            for name in names:
                named = {other: right[other] for other in names}
                wrong = [(several, several if name in GIVEN else None)]
                if name == "count":
                    wrong.append((whole, whole))
                elif name == "table":
                    table = ((ONE, (whole, 1)), (ONE, ONE))
                    wrong.append((table, table))
                elif name not in GIVEN:
                    inner = whole if name in ("lot", "signs") else (1, whole)
                    wrong.append((with_item(right[name], 0, inner), 0))
                for value, keeps in wrong:
                    named[name] = value
                    self._refuses(name, keeps, function, **named)

    def test_sums_that_are_told(self):
        self.assertTrue(same(pulls(WIDE, row_of(1, 2)), row_of(1, 2, 3, -1)))


if __name__ == "__main__":
    unittest.main()
