"""What the checker accepts, and what it does not."""

import random
import unittest
from fractions import Fraction

from fewtold import certificates
from fewtold.checker import accepts
from fewtold.errors import NotFree
from tests.papers import (
    BY_DEPENDENCE, PAIRS, PAPERLESS, PARTS, dependences_to_try, of_claim, parts_for, plain_accepts,
    times_row, wrong_parts,
)
from tests.reckoning import long_numbers_table, ones, opposite, random_row, row_plus, small_tables
from tests.support import (
    LESS, LONG, NIL, NO_COUNTS, NO_FRACTIONS, NO_TUPLES, ONE, STEPS, THREE, TWO, WIDE, identity, no_amounts, no_lots,
    no_rows, pair, random_table, row_of, same, table_of, with_item,
)

CERTIFY = {
    "told": certificates.certify_told, "back": certificates.certify_back, "factor": certificates.certify_factor,
    "some amounts": certificates.certify_amounts, "least cost": certificates.certify_cost,
    "only cheapest": certificates.certify_row, "signs back": certificates.certify_signs,
    "lot back": certificates.certify_lot, "only above": certificates.certify_above,
    "lot above": certificates.certify_lot_above, "back above": certificates.certify_back_above,
    "greedy": certificates.certify_greedy, "mends": certificates.certify_mending,
}
UNLIKE = (TWO, TWO, THREE, THREE)
ALL_ONE = (ONE,) * 4
BOTH = ((ONE, NIL, ONE), (NIL, ONE, ONE))
THRICE, EVEN = ((ONE,), (ONE,), (ONE,)), (ONE, ONE, ONE)
LINE = table_of([1, 1, 1], [0, 1, 2])
BAR = row_of(1, -3, 3, -1)
# A claim of each name, and a paper for it, by hand.
BY_HAND = (
    (("told", STEPS, 1), ()),
    (("untold", STEPS, 2), (row_of(1, -3, 0, 0), row_of(0, 0, -3, 1))),
    (("back", STEPS, ALL_ONE, 1), ()),
    (("not back", STEPS, ALL_ONE, 2), row_of(-2, 6, -6, 2)),
    (("factor", STEPS, ALL_ONE, 1, (4, 1)), ()),
    (("some amounts", WIDE, 1), UNLIKE),
    (("no amounts", STEPS, 2), ((BAR, (0, 1), (1, 2)), (BAR, (2, 3), (1, 2)))),
    (("least cost", WIDE, UNLIKE, (TWO, ONE), (5, 1)), (row_of(1, 0, 1, 0), (TWO, ONE))),
    (("only cheapest", WIDE, UNLIKE, row_of(1, 0, 1, 0)), (TWO, ONE)),
    (("not only cheapest", WIDE, ALL_ONE, row_of(1, 0, 1, 0)), row_of(-1, 0, Fraction(1, 2), Fraction(1, 2))),
    (("signs back", WIDE, UNLIKE, (1, 0, 1, 0)), (TWO, ONE)),
    (("signs lost", WIDE, UNLIKE, (1, 0, -1, 0)), row_of(-1, -1, 1, 0)),
    (("lot back", WIDE, UNLIKE, (0,)), ()),
    (("lot lost", WIDE, UNLIKE, (2, 3)), row_of(-2, 0, 1, 1)),
    (("only above", LINE, 0), ()),
    (("not only above", LINE, 1), row_of(2, -4, 2)),
    (("lot above", LINE, (0,)), (NIL, THREE)),
    (("lot not above", LINE, (1,)), row_of(1, -2, 1)),
    (("back above", LINE, (TWO, ONE, ONE), 1), ()),
    (("lost above", LINE, (ONE, ONE, ONE), 1), row_of(5, -10, 5)),
    (("greedy", BOTH, (2,)), ()),
    (("strays", BOTH, (0,)), row_of(-7, 0, 0)),
    (("mends", THRICE, EVEN, 1), ()),
    (("does not mend", THRICE, (THREE, ONE, ONE), 1), (LESS,)),
)


class Odd:
    """Equal to all that it is compared with, and of no use for anything else."""

    def __eq__(self, other):
        return True

    def __ne__(self, other):
        return False

    def __hash__(self):
        raise RuntimeError("no hash")

    def __len__(self):
        raise RuntimeError("no length")

    def __bool__(self):
        raise RuntimeError("no truth")

    def __iter__(self):
        raise RuntimeError("no elements")


class Lying:
    """Says of itself that it is of another class."""

    def __init__(self, told):
        self._told = told

    @property
    def __class__(self):
        return self._told


class Mute:
    @property
    def __class__(self):
        raise RuntimeError("no class")


def bent_everywhere(value):
    """The value with some one thing in it of another kind, wherever it is."""
    if isinstance(value, tuple):
        yield list(value)
        yield None
        for place, item in enumerate(value):
            for other in bent_everywhere(item):
                yield with_item(value, place, other)
    elif isinstance(value, str):
        yield from (value + " ", value.upper(), value.encode(), (value,), "", None)
    else:
        yield from (str(value), Fraction(value), None, (value,), [value])
        if value in (0, 1):
            yield bool(value)


class CheckerTest(unittest.TestCase):
    def _takes(self, want, claim, paper):
        got = accepts(claim, paper)
        if got is not want:
            # Not told before: some numbers are too long to be written.
            self.fail((got, repr(claim)[:600], repr(paper)[:600]))

    def test_by_hand(self):
        self.assertEqual([claim[0] for claim, _ in BY_HAND], list(PARTS))
        for claim, paper in BY_HAND:
            self._takes(True, claim, paper)
            self.assertIs(accepts(paper=paper, claim=claim), True)
            self.assertIs(plain_accepts(claim, paper), True)

    def test_papers_of_others(self):
        for claim, paper in BY_HAND:
            for other, other_paper in BY_HAND:
                if not same(paper, other_paper):
                    self._takes(_fits(claim, other_paper) and plain_accepts(claim, other_paper), claim, other_paper)

    def test_a_part_more_or_less(self):
        for claim, paper in BY_HAND:
            for more in ((), paper, 0, 1, None, claim[-1]):
                self._takes(False, claim + (more,), paper)
                self._takes(False, (claim, more), paper)
            for place in range(len(claim)):
                self._takes(False, claim[:place] + claim[place + 1:], paper)
                self._takes(False, claim[:place], paper)
                self._takes(False, claim[:place] + claim[place:place + 1] + claim[place:], paper)
            self._takes(False, claim[::-1], paper)
            self._takes(False, (claim,), paper)
            self._takes(False, claim + (paper,), ())
            self._takes(False, claim[1:], paper)

    def test_another_kind_anywhere(self):
        for claim, paper in BY_HAND:
            for bent in bent_everywhere(claim):
                self._takes(False, bent, paper)
            for bent in bent_everywhere(paper):
                self._takes(False, claim, bent)

    def test_fractions_that_are_not_reduced(self):
        for claim, paper in BY_HAND:
            for bent in _not_reduced(claim):
                self._takes(False, bent, paper)
            for bent in _not_reduced(paper):
                self._takes(False, claim, bent)

    def test_wrong_parts(self):
        for claim, paper in BY_HAND:
            names = PARTS[claim[0]].split()
            for at in range(len(names)):
                for value in wrong_parts(names, at, claim):
                    self._takes(False, with_item(claim, at + 1, value), paper)

    def test_papers_of_wrong_forms(self):
        for claim, paper in BY_HAND:
            for value in NO_TUPLES + NO_FRACTIONS + NO_COUNTS:
                if not _is_empty(value) or paper != ():
                    self._takes(_fits(claim, value) and plain_accepts(claim, value), claim, value)
            self._takes(False, claim, (paper,))
            self._takes(False, claim, paper + (ONE,))
            self._takes(False, claim, paper + ((),))
            if paper:
                self._takes(False, claim, ())
                if claim[0] != "no amounts":
                    self._takes(False, claim, paper[1:])
                    self._takes(False, claim, paper[:-1])
                    self._takes(False, claim, paper * 2)
                for place in range(len(paper)):
                    for value in NO_TUPLES:
                        self._takes(False, claim, with_item(paper, place, value))
            if isinstance(paper, tuple) and paper and isinstance(paper[0], tuple) and len(paper[0]) == 2:
                for value, _ in no_rows(len(paper)):
                    if not (claim[0] == "least cost" or claim[0] == "untold"):
                        self._takes(False, claim, value)

    def test_papers_of_parts_of_wrong_forms(self):
        twins, paper = BY_HAND[1]
        for value, _ in no_rows(4):
            self._takes(False, twins, (paper[0], value))
            self._takes(False, twins, (value, paper[1]))
        cost, (row, prices) = BY_HAND[7]
        for value, _ in no_rows(4):
            self._takes(False, cost, (value, prices))
        for value, _ in no_rows(2):
            self._takes(False, cost, (row, value))
        self._takes(False, cost, (prices, row))
        amounts, _ = BY_HAND[5]
        for value, _ in no_amounts(4):
            self._takes(False, amounts, value)
        none, steps = BY_HAND[6]
        for value, _ in no_rows(4):
            self._takes(False, none, ((value, (0, 1), ONE), steps[1]))
        for value, _ in no_lots(4):
            self._takes(False, none, ((BAR, value, (1, 2)), steps[1]))
        for value, _ in no_amounts(1):
            if isinstance(value, tuple) and len(value) == 1:
                self._takes(False, none, ((BAR, (0, 1), value[0]), steps[1]))
        for value in (BAR, (BAR, (0, 1)), (BAR, (0, 1), ONE, ONE), ((0, 1), BAR, ONE), [BAR, (0, 1), ONE], None):
            self._takes(False, none, (value, steps[1]))
            self._takes(False, none, steps + (value,))

    def test_names(self):
        for claim, paper in BY_HAND:
            for name in list(PARTS) + ["Told", "", "told ", " told", "claim", "not told", "untold\n", "greedy\0"]:
                other = (name,) + claim[1:]
                if name != claim[0]:
                    fits = name in PARTS and PARTS[name] == PARTS[claim[0]] and _fits(other, paper)
                    self._takes(fits and plain_accepts(other, paper), other, paper)

    def test_whatever_they_are(self):
        anything = NO_TUPLES + NO_FRACTIONS + NO_COUNTS + (
            Odd(), Mute(), Lying(tuple), Lying(int), Lying(str), "told", ("told",), ("told", STEPS), (Odd(), STEPS, 1),
            ("told", Odd(), 1), ("told", STEPS, Odd()), ("told", STEPS, Lying(int)), (Lying(str), STEPS, 1),
            ("told", ((Mute(),),), 1), (Mute(), STEPS, 1), ([], STEPS, 1), ({}, STEPS, 1), ((), STEPS, 1),
            ("told", (((Lying(int), 1),),), 1), ("told", Lying(tuple), 1), {"told": 1}, [["told"]], Odd, accepts,
            10 ** 6000, -10 ** 6000, ("told", STEPS, 10 ** 6000), ("told", STEPS, -10 ** 6000), ("\ud800", STEPS, 1),
            ((((((((((((((),),),),),),),),),),),),),), ((), ()), (((),),), ("told", (((0, 0),),), 1), (None,) * 5,
        )
        for claim in anything:
            for paper in anything:
                self._takes(False, claim, paper)
        for claim, paper in BY_HAND:
            for value in anything:
                self._takes(False, value, paper)
                if not _is_empty(value):
                    self._takes(_fits(claim, value) and plain_accepts(claim, value), claim, value)
                self._takes(False, with_item(claim, 1, value), paper)
                if type(value) is not str:
                    self._takes(False, with_item(claim, 0, value), paper)
            for value in (Odd(), Mute(), Lying(int), Lying(tuple), Lying(str), Lying(bool)):
                for bent in _with_anywhere(claim, value):
                    self._takes(False, bent, paper)
                for bent in _with_anywhere(paper, value):
                    self._takes(False, claim, bent)

    def test_each_paper_as_it_is_described(self):
        """Any dependences, rows and amounts, right or not, held against the plain checker."""
        right = {}
        tables = small_tables(81, 50) + [WIDE, STEPS, LINE, BOTH, table_of([0]), table_of([1, 1]), identity(3)]
        for seed, table in enumerate(tables):
            for claim in of_claim(parts_for(table, seed)):
                for paper in self._papers_to_try(claim, seed):
                    want = plain_accepts(claim, paper)
                    self._takes(want, claim, paper)
                    right[claim[0], want] = right.get((claim[0], want), 0) + 1
        for name in PARTS:
            self.assertGreater(right.get((name, True), 0), 7, name)
            if name not in ("factor",):
                self.assertGreater(right.get((name, False), 0), 7, name)

    def _papers_to_try(self, claim, seed):
        name, table, *rest = claim
        if name in PAPERLESS:
            return [()]
        many, height = len(table[0]), len(table)
        if name in BY_DEPENDENCE:
            found = dependences_to_try(table, seed)
        elif name == "untold":
            found = [(row, (NIL,) * many) for row in dependences_to_try(table, seed, 3)]
            found += [_parted(row, rest[0], seed) for row in dependences_to_try(table, seed, 3)]
            found += [(row_plus(row, ones(many)), ones(many)) for row in dependences_to_try(table, seed, 1)]
        elif name == "some amounts":
            found = [ones(many), row_of(*range(1, many + 1)), row_of(*[10 ** k for k in range(many)])]
        elif name == "no amounts":
            found = self._steps_to_try(table, rest[0], seed)
        elif name in ("strays", "does not mend"):
            found = [random_row(seed + k, many, (-2, -1, 0, 1, 3)) for k in range(6)]
            found += [row_of(*[int(k == place) for k in range(many)]) for place in range(many)] + [(NIL,) * many]
            if name == "strays":
                found += [tuple(x if k in rest[0] else NIL for k, x in enumerate(row)) for row in found]
        else:
            found = [random_row(seed + k, height, (-2, -1, 0, 1, 3)) for k in range(4)] + [(NIL,) * height]
        found += self._by_the_package(claim)
        if name == "least cost":
            found = [paper for paper in found if len(paper) == 2 and isinstance(paper[0][0], tuple)]
        return found

    def _by_the_package(self, claim):
        """The paper of the package for this claim or the other one, if it fits, and others made of it."""
        name = [first for first, second in PAIRS + (("least cost", None),) if claim[0] in (first, second)][0]
        try:
            told, paper = CERTIFY[name](*claim[1:4 if name == "least cost" else None])
        except NotFree:
            return []
        if told[0] != claim[0] or paper == ():
            return []
        if name == "least cost":
            row, prices = paper
            wrong = [(row_plus(row, ones(len(row))), prices), (row, row_plus(prices, ones(len(prices)))), (row, row)]
            wrong = [both for both in wrong if len(both[1]) == len(prices)]
            return [paper, (row, times_row(Fraction(1, 2), prices)), (times_row(Fraction(2), row), prices)] + wrong
        if claim[0] == "untold":
            one, other = paper
            return [paper, (other, one), (opposite(one), opposite(other)), (one, one), (times_row(3, one), other)]
        if claim[0] == "no amounts":
            return [paper, paper[::-1], paper * 2, paper[1:], paper[:-1]]
        moved = row_plus(paper, tuple(pair(Fraction(1, 10 ** 30)) for _ in paper))
        found = [paper, times_row(Fraction(3, 7), paper), times_row(5, paper), opposite(paper), moved]
        return [row for row in found if claim[0] != "some amounts" or all(top > 0 for top, _ in row)]

    def _steps_to_try(self, table, count, seed):
        source = random.Random(seed)
        many = len(table[0])
        found = [()]
        for row in dependences_to_try(table, seed, 4):
            steps = []
            for _ in range(source.randint(1, 4)):
                lot = tuple(sorted(source.sample(range(many), source.randint(0, min(many, count + 1)))))
                steps.append((row, lot, pair(Fraction(source.randint(1, 3), source.randint(1, 3)))))
            found.append(tuple(steps))
        return found

    def test_sums_of_least_dependences_are_papers_too(self):
        table = table_of([1, 1, 0, 0], [0, 0, 1, 1])
        both = row_of(1, -1, 1, -1)
        self._takes(True, ("not back", table, ALL_ONE, 2), both)
        self._takes(False, ("not back", table, ALL_ONE, 1), both)
        self._takes(True, ("not only above", table, 2), both)
        self._takes(False, ("not only above", table, 1), both)
        self._takes(True, ("lot lost", table, ALL_ONE, (0, 2)), both)
        self._takes(True, ("lot not above", table, (1, 3)), both)
        self._takes(False, ("lot not above", table, (1, 2)), both)
        self._takes(True, ("signs lost", table, ALL_ONE, (0, 1, 0, 1)), both)
        self._takes(True, ("not only cheapest", table, ALL_ONE, row_of(0, 1, 0, 1)), both)
        self._takes(False, ("not only cheapest", table, ALL_ONE, row_of(1, 0, 1, 0)), both)
        self._takes(True, ("not only cheapest", table, ALL_ONE, row_of(-1, 0, 0, 1)), both)
        self._takes(True, ("lost above", table, ALL_ONE, 2), both)
        self._takes(True, ("untold", table, 2), (row_of(1, 0, 1, 0), row_of(0, 1, 0, 1)))
        self._takes(False, ("untold", table, 1), (row_of(1, 0, 1, 0), row_of(0, 1, 0, 1)))

    def test_a_multiple_that_goes_too_far(self):
        claim = ("not only cheapest", WIDE, ALL_ONE, row_of(1, 0, 1, 0))
        step = row_of(-1, 0, Fraction(1, 2), Fraction(1, 2))
        self._takes(True, claim, times_row(Fraction(1, LONG), step))
        self._takes(False, claim, times_row(Fraction(LONG + 1, LONG), step))
        self._takes(False, claim, opposite(step))
        self._takes(True, ("signs lost", WIDE, ALL_ONE, (1, 0, 1, 0)), times_row(LONG, step))

    def test_by_a_hair(self):
        hair = Fraction(1, 10 ** 60)
        for more in (-hair, 0, hair):
            amounts = row_of(1, 1, 2 + more)
            table, h = table_of([1, 0, 1], [0, 1, 1]), row_of(1, 1, -1)
            self._takes(more < 0, ("back", table, amounts, 1), ())
            self._takes(more >= 0, ("not back", table, amounts, 1), h)
            self._takes(more < 0, ("lot back", table, amounts, (2,)), ())
            self._takes(more >= 0, ("lot lost", table, amounts, (2,)), h)
            self._takes(more >= 0, ("signs lost", table, amounts, (0, 0, 1)), h)
            self._takes(more < 0, ("some amounts", table, 1), amounts)
            prices = row_of(1 + more / 2, 1 + more / 2)
            self._takes(more < 0, ("only cheapest", table, amounts, row_of(0, 0, 5)), prices)
            self._takes(more >= 0, ("not only cheapest", table, amounts, row_of(0, 0, 5)), h)
            self._takes(more >= 0, ("lost above", table, amounts, 1), h)
            self._takes(more < 0, ("back above", table, amounts, 1), ())
            self._takes(more < 0, ("mends", THRICE, row_of(2 + more, 1, 1), 1), ())
            self._takes(more >= 0, ("does not mend", THRICE, row_of(2 + more, 1, 1), 1), (ONE,))
            leaning = table_of([1, 1 + more], [0, 3])
            self._takes(more < 0, ("greedy", leaning, (0,)), ())
            self._takes(more >= 0, ("strays", leaning, (0,)), row_of(1, 0))
            self._takes(more == 0, ("factor", table, ones(3), 0, pair(1 + more)), ())
            self._takes(more == 0, ("factor", STEPS, ALL_ONE, 1, pair(4 + more)), ())
            self._takes(more == 0, ("least cost", WIDE, UNLIKE, (TWO, ONE), pair(5 + more)), BY_HAND[7][1])
            self._takes(more == 0, ("lot above", LINE, (0,)), row_of(more, 1))

    def test_no_factor_where_a_count_is_not_given_back(self):
        for count in range(2, 9):
            for told in ((-2, 1), (2, 1), (4, 1), ONE, NIL, LESS, (3, 1)):
                self._takes(False, ("factor", STEPS, ALL_ONE, count, told), ())
        # The share is just 1.
        for told in (ONE, NIL, (2, 1), (LONG, 1)):
            self._takes(False, ("factor", WIDE, ALL_ONE, 1, told), ())
            self._takes(told == ONE, ("factor", WIDE, ALL_ONE, 0, told), ())

    def test_a_lot_that_is_not_free(self):
        table = table_of([1, 1], [2, 2])
        self._takes(False, ("greedy", table, (0, 1)), ())
        self._takes(False, ("strays", table, (0, 1)), row_of(1, 1))
        self._takes(False, ("only cheapest", table, row_of(1, 1), row_of(1, 1)), row_of(1, 0))
        self._takes(False, ("signs back", table, row_of(1, 1), (1, 1)), row_of(1, 0))
        self._takes(True, ("signs lost", table, row_of(1, 1), (1, 1)), row_of(1, -1))
        self._takes(False, ("lot above", table, (0, 1)), row_of(0, 0))
        self._takes(True, ("lot not above", table, (0, 1)), row_of(1, -1))
        self._takes(False, ("lot back", table, row_of(1, 1), (0, 1)), ())
        self._takes(True, ("lot lost", table, row_of(1, 1), (0, 1)), row_of(-1, 1))

    def test_without_a_dependence(self):
        table, amounts = identity(3), row_of(1, 2, 3)
        for count in range(9):
            self._takes(True, ("told", table, count), ())
            self._takes(True, ("back", table, amounts, count), ())
            self._takes(True, ("factor", table, amounts, count, ONE), ())
            self._takes(False, ("factor", table, amounts, count, TWO), ())
            self._takes(True, ("some amounts", table, count), amounts)
            self._takes(True, ("only above", table, count), ())
            self._takes(True, ("back above", table, amounts, count), ())
            for row in ((NIL,) * 3, ones(3)):
                self._takes(False, ("not back", table, amounts, count), row)
                self._takes(False, ("not only above", table, count), row)
                self._takes(False, ("untold", table, count), (row, row))
                self._takes(False, ("no amounts", table, count), ((row, (), ONE),))
        self._takes(True, ("lot above", table, (0, 1, 2)), (NIL,) * 3)
        self._takes(False, ("lot above", table, (0, 1)), (NIL,) * 3)
        self._takes(True, ("greedy", table, (0, 1, 2)), ())
        self._takes(True, ("greedy", table, ()), ())
        self._takes(False, ("strays", table, ()), (NIL,) * 3)
        self._takes(False, ("strays", table, (0,)), (NIL,) * 3)
        self._takes(True, ("signs back", table, amounts, (1, -1, 0)), row_of(1, -2, Fraction(29, 10)))
        self._takes(False, ("signs back", table, amounts, (1, -1, 0)), row_of(1, -2, -3))

    def test_columns_of_noughts(self):
        table = table_of([1, 0], [0, 0])
        self._takes(True, ("untold", table, 1), (row_of(0, 3), row_of(0, -2)))
        self._takes(True, ("no amounts", table, 1), ((row_of(0, 1), (1,), ONE),))
        self._takes(False, ("no amounts", table, 0), ((row_of(0, 1), (), ONE),))
        self._takes(True, ("not back", table, ones(2), 1), row_of(0, LONG))
        self._takes(True, ("not only above", table, 0), row_of(0, 1))
        self._takes(False, ("not only above", table, 0), row_of(0, -1))
        self._takes(True, ("lot not above", table, ()), row_of(0, 1))
        self._takes(True, ("greedy", table, (0,)), ())

    def test_counts_above_the_columns(self):
        self._takes(True, ("untold", table_of([0]), 8), (row_of(1), row_of(0)))
        self._takes(True, ("not back", STEPS, ALL_ONE, 8), BAR)
        self._takes(True, ("no amounts", STEPS, 8), ((BAR, (0, 1, 2, 3), ONE),))
        self._takes(True, ("does not mend", THRICE, EVEN, 8), (ONE,))
        self._takes(True, ("not only above", LINE, 8), row_of(-1, 2, -1))
        self._takes(False, ("told", STEPS, 9), ())
        self._takes(False, ("told", identity(2), 9), ())

    def test_count_0(self):
        for table in (WIDE, STEPS, table_of([0])):
            amounts = ones(len(table[0]))
            self._takes(True, ("told", table, 0), ())
            self._takes(True, ("back", table, amounts, 0), ())
            self._takes(True, ("factor", table, amounts, 0, ONE), ())
            self._takes(True, ("some amounts", table, 0), amounts)
            self._takes(True, ("back above", table, amounts, 0), ())
            for row in dependences_to_try(table, 1):
                self._takes(False, ("untold", table, 0), (row, (NIL,) * len(row)))
                self._takes(False, ("not back", table, amounts, 0), row)
                self._takes(False, ("no amounts", table, 0), ((row, (), ONE),))
                self._takes(False, ("lost above", table, amounts, 0), row)
        self._takes(True, ("mends", THRICE, EVEN, 0), ())
        self._takes(False, ("does not mend", THRICE, EVEN, 0), (ONE,))

    def test_long_numbers(self):
        table = long_numbers_table(5, 2, 4, 200)
        for seed in range(3):
            parts = parts_for(table, seed)
            for claim in of_claim(parts):
                for paper in self._papers_to_try(claim, seed):
                    self._takes(plain_accepts(claim, paper), claim, paper)

    def test_the_widest(self):
        for seed, (height, many) in enumerate(((5, 7), (5, 8), (6, 7), (6, 8), (3, 8))):
            for claim in of_claim(parts_for(random_table(seed, height, many), seed)):
                for paper in self._papers_to_try(claim, seed):
                    self._takes(plain_accepts(claim, paper), claim, paper)

    def test_what_is_compared_is_left_as_it_is(self):
        claim = ["told", [list(row) for row in STEPS], 1]
        paper = [[1, 2], [3]]
        self._takes(False, claim, paper)
        self._takes(False, ("untold", STEPS, 2), paper)
        self.assertEqual((claim, paper), (["told", [list(row) for row in STEPS], 1], [[1, 2], [3]]))

    def test_equal_calls(self):
        for _ in range(2):
            for claim, paper in BY_HAND:
                self._takes(True, tuple(list(claim)), tuple(list(paper)))
                self._takes(False, claim, (paper, paper))

    def test_defined_in_the_file_of_checker(self):
        self.assertEqual(accepts.__module__, "fewtold.checker")


def _is_empty(value):
    return type(value) is tuple and len(value) == 0


def _parted(row, count, seed):
    """Two rows whose difference is a row, the first of them with so many of its numbers."""
    places = [k for k, number in enumerate(row) if number[0]]
    random.Random(seed).shuffle(places)
    one = tuple(number if k in places[:count] else NIL for k, number in enumerate(row))
    return one, row_plus(one, opposite(row))


def _is_row(value, many):
    return (
        type(value) is tuple and len(value) == many
        and all(same(x, pair(Fraction(*x))) for x in value if _is_pair(x)) and all(_is_pair(x) for x in value)
    )


def _is_pair(value):
    return type(value) is tuple and len(value) == 2 and all(type(x) is int for x in value) and value[1] > 0


def _fits(claim, paper):
    """Whether a paper has the form that a claim's name tells."""
    name, first, *rest = claim
    if name in PAPERLESS:
        return type(paper) is tuple and paper == ()
    many, height = len(first[0]), len(first)
    if name in BY_DEPENDENCE or name in ("strays", "does not mend"):
        return _is_row(paper, many)
    if name in ("only cheapest", "signs back", "lot above"):
        return _is_row(paper, height)
    if name == "some amounts":
        return _is_row(paper, many) and all(top > 0 for top, _ in paper)
    if type(paper) is not tuple:
        return False
    if name == "untold":
        return len(paper) == 2 and all(_is_row(row, many) for row in paper)
    if name == "least cost":
        return len(paper) == 2 and _is_row(paper[0], many) and _is_row(paper[1], height)
    return all(
        type(step) is tuple and len(step) == 3 and _is_row(step[0], many) and type(step[1]) is tuple
        and all(type(k) is int and 0 <= k < many for k in step[1]) and list(step[1]) == sorted(set(step[1]))
        and _is_pair(step[2]) and step[2][0] > 0
        for step in paper
    )


def _not_reduced(value):
    """The value with some one fraction in a row in it not reduced, or above a number below 0."""
    if not isinstance(value, tuple):
        return
    for place, item in enumerate(value):
        if isinstance(item, tuple) and len(item) == 2 and all(type(part) is int for part in item) and _in_a_row(value):
            top, bottom = item
            for bent in ((2 * top, 2 * bottom), (-top, -bottom), (top, 0), (top * LONG, bottom * LONG)):
                yield with_item(value, place, bent)
        elif isinstance(item, tuple):
            for bent in _not_reduced(item):
                yield with_item(value, place, bent)


def _in_a_row(value):
    return all(isinstance(item, tuple) and len(item) == 2 and type(item[0]) is int and item[1] == 1 for item in value)


def _with_anywhere(value, other):
    """The value with another one in the place of each thing in it, one at a time."""
    yield other
    if isinstance(value, tuple):
        for place, item in enumerate(value):
            for bent in _with_anywhere(item, other):
                yield with_item(value, place, bent)


if __name__ == "__main__":
    unittest.main()
