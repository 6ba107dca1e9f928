"""Claims with papers: which of two is told, that it is so, and that the checker accepts it."""

import unittest
from fractions import Fraction

from fewtold.back import factor, share
from fewtold.certificates import (
    certify_above, certify_amounts, certify_back, certify_back_above, certify_cost, certify_factor, certify_greedy,
    certify_lot, certify_lot_above, certify_mending, certify_row, certify_signs, certify_told,
)
from fewtold.checker import accepts
from fewtold.cheapest import least_cost
from fewtold.dependences import least_dependences
from fewtold.errors import NoRow, NotBack, NotFree
from fewtold.greedy import straying_row
from fewtold.readings import barring_fit, least_rows
from tests.nearest import random_readings
from tests.papers import (
    PAIRS, PAPERLESS, PARTS, are_back, arguments_for, is_so, parts_for, plain_accepts, plain_factor, times_row,
)
from tests.reckoning import (
    long_amounts, long_numbers_table, ones, opposite, random_amounts, random_row, row_plus, searched_corners,
    small_tables, some_row_has,
)
from tests.support import (
    LESS, LONG, NIL, ONE, SPECIAL, STEPS, THREE, TWO, WIDE, identity, is_told_row, many_tables, numbers_of, pair,
    plain_sums, random_table, rank_on, row_of, same, table_of,
)

# Each function, the claims of which it tells one, and what it is passed.
FUNCTIONS = (
    (certify_told, ("told", "untold"), ("table", "count")),
    (certify_back, ("back", "not back"), ("table", "amounts", "count")),
    (certify_factor, ("factor",), ("table", "amounts", "count")),
    (certify_amounts, ("some amounts", "no amounts"), ("table", "count")),
    (certify_cost, ("least cost",), ("table", "amounts", "sums")),
    (certify_row, ("only cheapest", "not only cheapest"), ("table", "amounts", "row")),
    (certify_signs, ("signs back", "signs lost"), ("table", "amounts", "signs")),
    (certify_lot, ("lot back", "lot lost"), ("table", "amounts", "lot")),
    (certify_above, ("only above", "not only above"), ("table", "count")),
    (certify_lot_above, ("lot above", "lot not above"), ("table", "lot")),
    (certify_back_above, ("back above", "lost above"), ("table", "amounts", "count")),
    (certify_greedy, ("greedy", "strays"), ("table", "lot")),
    (certify_mending, ("mends", "does not mend"), ("readings", "amounts", "count")),
)
ALL_ONE = (ONE,) * 4
UNLIKE = (TWO, TWO, THREE, THREE)
BOTH = ((ONE, NIL, ONE), (NIL, ONE, ONE))
THRICE, EVEN = ((ONE,), (ONE,), (ONE,)), (ONE, ONE, ONE)


class CertificatesTest(unittest.TestCase):
    def _refuses(self, kind, function, *arguments, **named):
        with self.assertRaises(kind) as caught:
            function(*arguments, **named)
        self.assertIs(type(caught.exception), kind)

    def _told(self, function, names, arguments):
        """The claim and the paper that are told, which are what they should be."""
        told = function(*arguments)
        self.assertIs(type(told), tuple)
        self.assertEqual(len(told), 2)
        claim, paper = told
        self.assertIs(type(claim), tuple)
        self.assertIn(claim[0], names)
        self.assertEqual(len(claim), 1 + len(PARTS[claim[0]].split()))
        for part, argument in zip(claim[1:], arguments):
            self.assertIs(part, argument)
        self.assertIs(accepts(claim, paper), True, claim[0])
        return claim, paper

    def _check(self, function, names, arguments):
        """The claim that is told is so, by a plain reckoning, and the other one has no paper."""
        claim, paper = self._told(function, names, arguments)
        self.assertTrue(plain_accepts(claim, paper), (claim, paper))
        if claim[0] in PAPERLESS:
            self.assertTrue(same(paper, ()))
        for name in names:
            if name != claim[0]:
                other = (name,) + claim[1:]
                for wrong in self._papers(claim, paper):
                    self.assertIs(accepts(other, wrong), False, (other, wrong))
                if name in PAPERLESS:
                    self.assertFalse(is_so(other))
        return claim[0]

    def _papers(self, claim, paper):
        """What might be taken for a paper of the other claim."""
        table = claim[1]
        found = [(), paper]
        if claim[0] in ("mends", "does not mend"):
            width = len(table[0])
            return found + [random_row(k, width, (-2, -1, 1, 3)) for k in range(4)]
        least = least_dependences(table)[:8] + (random_row(3, len(table[0])),)
        for row in least:
            found += [row, opposite(row), (row, opposite(row)), (row, row), (row, (NIL,) * len(row))]
            found += [((row, (0,), ONE),), ((row, (), ONE), (row, (0,), ONE))]
        found += [random_row(k, len(table)) for k in range(4)] + [(NIL,) * len(table)]
        found += [ones(len(table[0])), random_amounts(4, len(table[0]))]
        return found

    def test_by_hand(self):
        bar = row_of(1, -3, 3, -1)
        wanted = (
            (certify_told, (STEPS, 1), "told"), (certify_told, (STEPS, 2), "untold"),
            (certify_back, (STEPS, ALL_ONE, 1), "back"), (certify_back, (STEPS, ALL_ONE, 2), "not back"),
            (certify_factor, (STEPS, ALL_ONE, 1), "factor"), (certify_amounts, (WIDE, 1), "some amounts"),
            (certify_amounts, (STEPS, 2), "no amounts"), (certify_cost, (WIDE, UNLIKE, (TWO, ONE)), "least cost"),
            (certify_row, (WIDE, UNLIKE, row_of(1, 0, 1, 0)), "only cheapest"),
            (certify_row, (WIDE, ALL_ONE, row_of(1, 0, 1, 0)), "not only cheapest"),
            (certify_signs, (WIDE, UNLIKE, (1, 0, 1, 0)), "signs back"),
            (certify_signs, (WIDE, UNLIKE, (1, 0, -1, 0)), "signs lost"),
            (certify_lot, (WIDE, UNLIKE, (0,)), "lot back"), (certify_lot, (WIDE, UNLIKE, (2, 3)), "lot lost"),
            (certify_above, (table_of([1, 1, 1], [0, 1, 2]), 0), "only above"),
            (certify_above, (table_of([1, 1, 1], [0, 1, 2]), 1), "not only above"),
            (certify_lot_above, (table_of([1, 1, 1], [0, 1, 2]), (0,)), "lot above"),
            (certify_lot_above, (table_of([1, 1, 1], [0, 1, 2]), (1,)), "lot not above"),
            (certify_back_above, (table_of([1, 1, 1], [0, 1, 2]), row_of(2, 1, 1), 1), "back above"),
            (certify_back_above, (table_of([1, 1, 1], [0, 1, 2]), row_of(1, 1, 1), 1), "lost above"),
            (certify_greedy, (BOTH, (2,)), "greedy"), (certify_greedy, (BOTH, (0,)), "strays"),
            (certify_mending, (THRICE, EVEN, 1), "mends"),
            (certify_mending, (THRICE, (THREE, ONE, ONE), 1), "does not mend"),
        )
        for function, arguments, name in wanted:
            names = [told for other, told, _ in FUNCTIONS if other is function][0]
            self.assertEqual(self._check(function, names, arguments), name)
        self.assertTrue(same(certify_factor(STEPS, ALL_ONE, 1), (("factor", STEPS, ALL_ONE, 1, (4, 1)), ())))
        claim, _ = certify_cost(WIDE, UNLIKE, (TWO, ONE))
        self.assertTrue(same(claim, ("least cost", WIDE, UNLIKE, (TWO, ONE), (5, 1))))
        _, paper = certify_back(STEPS, ALL_ONE, 2)
        self.assertIn(paper, [times_row(Fraction(*paper[0]), bar)])

    def _check_all(self, parts):
        """All that is told of some parts; the names of the claims."""
        found = []
        for function, names, told in FUNCTIONS:
            arguments = arguments_for(told, parts)
            if function is certify_factor and not are_back(*arguments):
                self._refuses(NotBack, function, *arguments)
            elif function is certify_greedy and rank_on(arguments[0], arguments[1]) < len(arguments[1]):
                self._refuses(NotFree, function, *arguments)
            else:
                found.append(self._check(function, names, arguments))
        return found

    def test_any_tables(self):
        found = []
        for seed, table in enumerate(many_tables() + small_tables(91, 40)):
            found += self._check_all(parts_for(table, seed))
        for name in PARTS:
            self.assertGreater(found.count(name), 10, name)

    def test_wide_tables(self):
        for seed, (height, many) in enumerate(((5, 7), (5, 8), (6, 7), (6, 8), (6, 8), (5, 8), (4, 8), (3, 7))):
            for tops in ((-2, -1, 0, 0, 1, 2, 3), (-9, -4, -1, 1, 2, 5, 7)):
                self._check_all(parts_for(random_table(seed, height, many, tops), seed))

    def test_signs_and_lots_with_few_places(self):
        for seed, table in enumerate(small_tables(92, 30)):
            many = len(table[0])
            amounts = random_amounts(seed, many)
            for place in range(many):
                signs = tuple(int(k == place) for k in range(many))
                self._check(certify_signs, ("signs back", "signs lost"), (table, amounts, signs))
                self._check(certify_row, ("only cheapest", "not only cheapest"), (table, amounts, row_of(*signs)))
                self._check(certify_lot, ("lot back", "lot lost"), (table, amounts, (place,)))
                self._check(certify_lot_above, ("lot above", "lot not above"), (table, (place,)))

    def test_no_amounts(self):
        found = 0
        for seed, table in enumerate(small_tables(93, 150) + many_tables()):
            for count in (1, 2, 8):
                found += self._check(certify_amounts, ("some amounts", "no amounts"), (table, count)) == "no amounts"
        self.assertGreater(found, 100)

    def test_no_amounts_by_several_dependences(self):
        # Told, and none of the dependences bars all amounts alone.
        found = 0
        for table in small_tables(8, 150):
            for count in (1, 2, 3):
                claim, paper = certify_amounts(table, count)
                if claim[0] != "no amounts" or not accepts(("told", table, count), ()):
                    continue
                found += 1
                self.assertGreater(len(paper), 1)
                for place, (row, lot, amount) in enumerate(paper):
                    fewer = (row, lot, times_row(Fraction(1, 7), (amount,))[0])
                    less = paper[:place] + (fewer,) + paper[place + 1:]
                    self.assertIs(accepts(claim, less), plain_accepts(claim, less))
        self.assertGreater(found, 3)

    def test_amounts_of_tables_that_just_have_some_and_just_none(self):
        """Between a table with and one without, until they differ by less than short numbers show."""
        without = [table for table in small_tables(8, 150) if (len(table), len(table[0])) == (5, 8)]
        without = [table for table in without if accepts(("told", table, 2), ())]
        without = [table for table in without if certify_amounts(table, 2)[0][0] == "no amounts"][0]
        tables = [random_table(seed, 5, 8, tuple(range(-9, 10)), (1,)) for seed in range(60)]
        having = [table for table in tables if certify_amounts(table, 2)[0][0] == "some amounts"][0]
        low, high = Fraction(0), Fraction(1)
        while high - low > Fraction(1, 10 ** 25):
            middle = (low + high) / 2
            claim, paper = certify_amounts(_between(having, without, middle), 2)
            self.assertIs(accepts(claim, paper), True)
            low, high = (middle, high) if claim[0] == "some amounts" else (low, middle)
        for part, name in ((low, "some amounts"), (high, "no amounts")):
            arguments = (_between(having, without, part), 2)
            self.assertEqual(self._check(certify_amounts, ("some amounts", "no amounts"), arguments), name)

    def test_amounts_for_long_numbers(self):
        found = []
        shapes = ((4, 8, 1), (4, 8, 2), (3, 6, 2), (4, 7, 3), (6, 8, 2), (6, 8, 3), (5, 7, 2), (5, 8, 2))
        for height, many, count in shapes:
            for figures in (20, 60):
                table = long_numbers_table(height + figures, height, many, figures)
                arguments = (table, count)
                found.append(self._check(certify_amounts, ("some amounts", "no amounts"), arguments))
        self.assertGreater(found.count("some amounts"), 4)
        self.assertGreater(found.count("no amounts"), 4)

    def test_amounts_for_numbers_of_unlike_lengths(self):
        for table in (
            table_of([1, LONG, 1], [0, 1, LONG]),
            table_of([1, LONG, 1, 1], [0, 1, LONG, 2], [1, 1, 1, Fraction(1, LONG)]),
            table_of([1, 0, 1, 1, 1], [0, LONG, 1, 2, 1], [0, 0, 1, 3, Fraction(1, LONG)]),
            table_of([1, 0, 0, 0, 1, 1], [0, 1, 0, 0, 1, LONG], [0, 0, 1, 0, 1, 3], [0, 0, 0, 1, 1, LONG + 1]),
        ):
            for count in range(4):
                self._check(certify_amounts, ("some amounts", "no amounts"), (table, count))

    def test_edges(self):
        for table in SPECIAL:
            many, height = len(table[0]), len(table)
            for count, lot in ((0, ()), (8, tuple(range(many))), (1, (many - 1,)), (many, (0,))):
                parts = {
                    "table": table, "count": count, "amounts": ones(many), "row": (NIL,) * many, "lot": lot,
                    "sums": (NIL,) * height, "signs": tuple(int(k in lot) for k in range(many)),
                    "readings": THRICE, "reading amounts": EVEN,
                }
                self._check_all(parts)

    def test_readings(self):
        found = []
        for seed in range(60):
            readings = random_readings(seed, None, None, (-3, -1, 1, 2, 5), (1, 2))
            many = len(readings)
            for amounts in (ones(many), random_amounts(seed, many)):
                for count in (0, 1, 2, 8):
                    arguments = (readings, amounts, count)
                    found.append(self._check(certify_mending, ("mends", "does not mend"), arguments))
        self.assertGreater(found.count("mends"), 150)
        self.assertGreater(found.count("does not mend"), 150)

    def test_the_numbers_that_are_told(self):
        for seed, table in enumerate(small_tables(94, 60)):
            parts = parts_for(table, seed)
            amounts, sums, count = parts["amounts"], parts["sums"], parts["count"]
            claim, (row, _) = certify_cost(table, amounts, sums)
            self.assertTrue(same(claim[-1], least_cost(table, amounts, sums)))
            self.assertIn(row, searched_corners(table, amounts, sums))
            if are_back(table, amounts, count):
                claim, _ = certify_factor(table, amounts, count)
                self.assertTrue(same(claim[-1], plain_factor(table, amounts, count)))
                self.assertTrue(same(claim[-1], factor(table, amounts, count)))

    def test_another_number_is_not_accepted(self):
        hair = Fraction(1, 10 ** 60)
        for seed, table in enumerate(small_tables(95, 30)):
            parts = parts_for(table, seed)
            claim, paper = certify_cost(table, parts["amounts"], parts["sums"])
            for more in (hair, -hair, 1):
                other = claim[:-1] + (pair(Fraction(*claim[-1]) + more),)
                self.assertIs(accepts(other, paper), False)
            if are_back(table, parts["amounts"], parts["count"]):
                claim, paper = certify_factor(table, parts["amounts"], parts["count"])
                for more in (hair, -hair, 1, -1):
                    self.assertIs(accepts(claim[:-1] + (pair(Fraction(*claim[-1]) + more),), paper), False)
                told = Fraction(*share(table, parts["amounts"], parts["count"]))
                self.assertIs(accepts(claim[:-1] + (pair(told),), paper), False)

    def test_errors_that_come_last(self):
        for count in range(2, 9):
            self._refuses(NotBack, certify_factor, STEPS, ALL_ONE, count)
        self._refuses(NoRow, certify_cost, table_of([1, 1], [2, 2]), row_of(1, 1), row_of(1, 1))
        self._refuses(NotFree, certify_greedy, BOTH, (0, 1, 2))
        self._refuses(NotFree, certify_greedy, table_of([0]), (0,))
        for seed, table in enumerate(many_tables()[:40]):
            sums = random_row(seed, len(table), (1, 2, 5))
            if not some_row_has(table, sums):
                self._refuses(NoRow, certify_cost, table, ones(len(table[0])), sums)

    def test_long_numbers(self):
        for height, many, figures in ((1, 3, 300), (2, 4, 200), (3, 5, 60), (6, 8, 15)):
            table = long_numbers_table(height, height, many, figures)
            readings = long_numbers_table(many, many, min(many - 1, 4), figures)
            for seed, lot in enumerate(((), (0,), (1, 2))):
                row = tuple(pair(LONG + k) if k in lot else NIL for k in range(many))
                parts = {
                    "table": table, "count": seed, "amounts": long_amounts(many), "row": row, "lot": lot,
                    "sums": row_of(*plain_sums(table, row)), "signs": tuple(int(k in lot) for k in range(many)),
                    "readings": readings, "reading amounts": long_amounts(many),
                }
                self._check_all(parts)

    def test_what_is_told_may_be_passed(self):
        table = long_numbers_table(2, 3, 4, 300)
        amounts = certify_amounts(table, 1)[1]
        told = least_dependences(table)[0]
        for function, names, arguments in (
            (certify_back, ("back", "not back"), (table, amounts, 1)),
            (certify_row, ("only cheapest", "not only cheapest"), (table, amounts, told)),
            (certify_told, ("told", "untold"), ((told, amounts), 1)),
            (certify_cost, ("least cost",), (table, amounts, row_of(*plain_sums(table, amounts)))),
            (certify_greedy, ("greedy", "strays"), ((told, amounts), (0,))),
        ):
            claim, paper = self._told(function, names, arguments)
            self.assertIs(accepts(claim, paper), True)
        stray = straying_row(table, (0, 1))
        if stray is not None:
            self._told(certify_row, ("only cheapest", "not only cheapest"), (table, amounts, stray))
        readings = long_numbers_table(3, 5, 2, 300)
        turned = tuple(zip(*least_rows(readings)[:2]))
        self._told(certify_mending, ("mends", "does not mend"), (turned, long_amounts(5), 1))
        fit = barring_fit(readings, ones(5), 8)
        self.assertTrue(is_told_row(fit, 2))
        self.assertIs(accepts(("does not mend", readings, ones(5), 8), fit), True)

    def test_never_both(self):
        """Whatever is a paper of the one claim, the other one has none among many."""
        for seed, table in enumerate(small_tables(96, 25)):
            parts = parts_for(table, seed)
            for one, other in PAIRS:
                arguments = arguments_for(PARTS[one].split(), parts)
                papers = self._papers((one,) + arguments, ())
                accepted = [any([accepts((name,) + arguments, paper) for paper in papers]) for name in (one, other)]
                self.assertFalse(all(accepted), (one, arguments))

    def test_rows_that_cost_less_than_they_seem(self):
        # Half of the dependence costs the row nothing, and all of it more.
        row = row_of(1, 0, 1, 0)
        claim, paper = certify_row(WIDE, ALL_ONE, row)
        self.assertEqual(claim[0], "not only cheapest")
        self.assertTrue(plain_accepts(claim, paper))
        self.assertEqual(plain_sums(WIDE, row_plus(row, paper)), plain_sums(WIDE, row))

    def test_by_name(self):
        parts = {
            "table": WIDE, "count": 1, "amounts": UNLIKE, "row": row_of(1, 0, 1, 0), "lot": (0,), "sums": (TWO, ONE),
            "signs": (1, 0, 1, 0), "readings": THRICE, "reading amounts": EVEN,
        }
        for function, _, names in FUNCTIONS:
            arguments = arguments_for(names, parts)
            named = dict(reversed(list(zip(names, arguments))))
            self.assertTrue(same(function(**named), function(*arguments)))
        self._refuses(NotBack, certify_factor, count=2, amounts=ALL_ONE, table=STEPS)

    def test_equal_calls(self):
        parts = parts_for(WIDE, 4)
        for _ in range(2):
            for function, _, names in FUNCTIONS:
                arguments = arguments_for(names, parts)
                copied = [tuple(list(part)) if isinstance(part, tuple) else part for part in arguments]
                try:
                    self.assertTrue(same(function(*arguments), function(*copied)))
                except (NotBack, NotFree):
                    self.assertIn(function, (certify_factor, certify_greedy))

    def test_defined_in_the_file_of_certificates(self):
        for function, _, _ in FUNCTIONS:
            self.assertEqual(function.__module__, "fewtold.certificates")

    def test_a_table_that_is_the_same_when_turned(self):
        table = table_of([1, 0, 0, 1, 0, 0], [0, 1, 0, 0, 1, 0], [0, 0, 1, 0, 0, 1])
        self.assertEqual(self._check(certify_amounts, ("some amounts", "no amounts"), (table, 1)), "no amounts")
        self.assertEqual(self._check(certify_told, ("told", "untold"), (table, 1)), "untold")
        self.assertEqual(self._check(certify_lot_above, ("lot above", "lot not above"), (table, (0,))), "lot not above")
        self.assertEqual(self._check(certify_greedy, ("greedy", "strays"), (identity(6), (0, 5))), "greedy")
        self.assertEqual(self._check(certify_greedy, ("greedy", "strays"), (table, (0, 5))), "strays")
        arguments = (((LESS,),), (ONE,), 1)
        self.assertEqual(self._check(certify_mending, ("mends", "does not mend"), arguments), "does not mend")


def _between(one, other, part):
    """The table that is so far on the way from one table to another."""
    rows = [zip(numbers_of(first), numbers_of(second)) for first, second in zip(one, other)]
    return table_of(*[[a + (b - a) * part for a, b in row] for row in rows])


if __name__ == "__main__":
    unittest.main()
