"""A plain checker beside the program's, for claims and papers of the right forms, and what to try it with."""

import random
from fractions import Fraction

from tests.nearest import plain_greedy_share, plain_pulls, random_readings, sums_for
from tests.reckoning import (
    both_ways, dearest_and_others, number_below, on_and_off, ones, opposite, plain_cost, plain_products, quotient,
    random_amounts, random_lots, random_row, rise, row_plus, searched_corners, signed_and_off, some_row_has,
)
from tests.support import (
    NIL, NO_COUNTS, lot_of, no_amounts, no_lots, no_readings, no_rows, no_signs, no_tables, numbers_of,
    pair, plain_sums, rank_on, row_of, searched_least, takes_to_noughts,
)

PARTS = {
    "told": "table count", "untold": "table count", "back": "table amounts count", "not back": "table amounts count",
    "factor": "table amounts count fraction", "some amounts": "table count", "no amounts": "table count",
    "least cost": "table amounts sums fraction", "only cheapest": "table amounts row",
    "not only cheapest": "table amounts row", "signs back": "table amounts signs", "signs lost": "table amounts signs",
    "lot back": "table amounts lot", "lot lost": "table amounts lot", "only above": "table count",
    "not only above": "table count", "lot above": "table lot", "lot not above": "table lot",
    "back above": "table amounts count", "lost above": "table amounts count", "greedy": "table lot",
    "strays": "table lot", "mends": "readings amounts count", "does not mend": "readings amounts count",
}
PAIRS = (
    ("told", "untold"), ("back", "not back"), ("some amounts", "no amounts"), ("only cheapest", "not only cheapest"),
    ("signs back", "signs lost"), ("lot back", "lot lost"), ("only above", "not only above"),
    ("lot above", "lot not above"), ("back above", "lost above"), ("greedy", "strays"), ("mends", "does not mend"),
)


def signed_total(amounts, row):
    return sum(a * b for a, b in zip(numbers_of(amounts), numbers_of(row)))


def are_back(table, amounts, count):
    pairs = [dearest_and_others(amounts, row, count) for row in searched_least(table)]
    return all(dearest < others for dearest, others in pairs)


def plain_factor(table, amounts, count):
    told = Fraction(*quotient([dearest_and_others(amounts, row, count) for row in searched_least(table)]))
    return pair((1 + told) / (1 - told))


def is_so(claim):
    """Whether a claim that needs no paper is so."""
    name, table, *rest = claim
    if name == "told":
        return all(len(lot_of(row)) > 2 * rest[0] for row in searched_least(table))
    if name == "back":
        return are_back(table, *rest)
    if name == "factor":
        return are_back(table, *rest[:2]) and plain_factor(table, *rest[:2]) == rest[2]
    if name == "lot back":
        pairs = [on_and_off(rest[0], row, rest[1]) for row in searched_least(table)]
        return all(on_lot < off for on_lot, off in pairs)
    if name == "only above":
        return all(number_below(row) > rest[0] for row in both_ways(table))
    if name == "back above":
        return all(signed_total(rest[0], row) > 0 for row in both_ways(table) if number_below(row) <= rest[1])
    if name == "greedy":
        share = plain_greedy_share(table, rest[0])
        return share is not None and share < 1
    if name == "mends":
        return are_back(sums_for(table), *rest)
    raise KeyError(name)


PAPERLESS = ("told", "back", "factor", "lot back", "only above", "back above", "greedy", "mends")


def shows_signs(table, amounts, signs, prices):
    lot = [place for place, sign in enumerate(signs) if sign]
    if rank_on(table, lot) < len(lot):
        return False
    products = plain_products(table, prices)
    return all(
        product == sign * amount if sign else abs(product) < amount
        for product, amount, sign in zip(products, numbers_of(amounts), signs)
    )


def sign_row(row):
    return tuple((number[0] > 0) - (number[0] < 0) for number in row)


def adds_up_to_nothing_above(table, count, steps):
    total = [Fraction(0)] * len(table[0])
    for row, lot, amount in steps:
        if not takes_to_noughts(table, row) or len(lot) > count:
            return False
        for place, number in enumerate(numbers_of(row)):
            total[place] += Fraction(*amount) * abs(number) * (-1 if place in lot else 1)
    return len(steps) > 0 and all(number <= 0 for number in total)


def is_cost(table, amounts, sums, told, row, prices):
    products = plain_products(table, prices)
    return (
        plain_sums(table, row) == numbers_of(sums)
        and pair(plain_cost(amounts, row)) == told
        and pair(sum(a * b for a, b in zip(numbers_of(sums), numbers_of(prices)))) == told
        and all(abs(product) <= amount for product, amount in zip(products, numbers_of(amounts)))
    )


def strays(table, lot, row):
    if rank_on(table, lot) < len(lot) or not lot_of(row) or not set(lot_of(row)) <= set(lot):
        return False
    sizes = [abs(number) for number in plain_pulls(table, row_of(*plain_sums(table, row)))]
    others = [size for place, size in enumerate(sizes) if place not in lot]
    return any(all(size >= sizes[place] for place in lot) for size in others)


def dependence_shows(claim, row):
    """Whether a dependence is the paper of a claim that has one as its paper."""
    name, table, *rest = claim
    if name == "not back":
        dearest, others = dearest_and_others(rest[0], row, rest[1])
        return dearest >= others
    if name == "not only cheapest":
        return plain_cost(rest[0], row_plus(rest[1], row)) <= plain_cost(rest[0], rest[1])
    if name == "signs lost":
        return rise(rest[0], row_of(*rest[1]), row) <= 0
    if name == "lot lost":
        on_lot, off = on_and_off(rest[0], row, rest[1])
        return on_lot >= off
    if name == "not only above":
        return number_below(row) <= rest[0]
    if name == "lot not above":
        return all(number[0] >= 0 for place, number in enumerate(row) if place not in rest[0])
    if name == "lost above":
        return number_below(row) <= rest[1] and signed_total(rest[0], row) <= 0
    raise KeyError(name)


BY_DEPENDENCE = (
    "not back", "not only cheapest", "signs lost", "lot lost", "not only above", "lot not above", "lost above",
)


def plain_accepts(claim, paper):
    """Whether a paper, of the form that the claim's name tells, shows the claim."""
    name, table, *rest = claim
    if name in PAPERLESS:
        return is_so(claim)
    if name in BY_DEPENDENCE:
        return takes_to_noughts(table, paper) and dependence_shows(claim, paper)
    if name == "untold":
        one, other = paper
        few = len(lot_of(one)) <= rest[0] and len(lot_of(other)) <= rest[0]
        return few and one != other and plain_sums(table, one) == plain_sums(table, other)
    if name == "some amounts":
        return are_back(table, paper, rest[0])
    if name == "no amounts":
        return adds_up_to_nothing_above(table, rest[0], paper)
    if name == "least cost":
        return is_cost(table, *rest, *paper)
    if name == "only cheapest":
        return shows_signs(table, rest[0], sign_row(rest[1]), paper)
    if name == "signs back":
        return shows_signs(table, *rest, paper)
    if name == "lot above":
        products = plain_products(table, paper)
        free = rank_on(table, rest[0]) == len(rest[0])
        return free and all((product > 0) if k not in rest[0] else product == 0 for k, product in enumerate(products))
    if name == "strays":
        return strays(table, rest[0], paper)
    if name == "does not mend":
        dearest, others = dearest_and_others(rest[0], row_of(*plain_sums(table, paper)), rest[1])
        return lot_of(paper) != () and dearest >= others
    raise KeyError(name)


def times_row(number, row):
    return row_of(*[number * other for other in numbers_of(row)])


def dependences_to_try(table, seed, times=8):
    """Least ones and others, multiples, opposites, and a few rows that are none."""
    source = random.Random(seed)
    least = searched_least(table)
    many = len(table[0])
    found = [(NIL,) * many, ones(many), random_row(seed, many)]
    for row in source.sample(least, min(3, len(least))):
        found += [row, opposite(row), times_row(Fraction(source.randint(1, 9), source.randint(1, 9)), row)]
        # Nearly one, at one place.
        found.append(row_plus(row, row_of(*[Fraction(int(k == 0), 10 ** 40) for k in range(many)])))
    for _ in range(times if least else 0):
        total = (NIL,) * many
        for row in source.sample(least, min(source.randint(1, 3), len(least))):
            total = row_plus(total, times_row(Fraction(source.randint(-4, 4), source.randint(1, 3)), row))
        found.append(total)
    return found


def parts_for(table, seed):
    """Right parts of all kinds for a table, and readings with their own amounts."""
    many = len(table[0])
    source = random.Random(seed)
    row = random_row(seed, many)
    signs_from = random_row(seed + 5, many, (-3, -1, 0, 0, 0, 0, 1, 2))
    readings = random_readings(seed)
    return {
        "table": table, "count": source.randint(0, 4),
        "amounts": ones(many) if seed % 3 else random_amounts(seed, many), "row": row,
        "sums": row_of(*plain_sums(table, row)), "lot": random_lots(seed, many, 1)[0],
        "signs": sign_row(signs_from), "readings": readings,
        "reading amounts": random_amounts(seed, len(readings)) if seed % 2 else ones(len(readings)),
    }


def arguments_for(names, parts):
    """The arguments of these names."""
    if names[0] == "readings":
        return (parts["readings"], parts["reading amounts"], parts["count"])
    return tuple(parts[name] for name in names)


def wrong_parts(names, at, claim):
    """Wrong values for a part of a claim, the first part being right."""
    first, name = claim[1], names[at]
    if name == "table":
        return no_tables(first)
    if name == "readings":
        return no_readings(first)
    if name == "count":
        return list(NO_COUNTS)
    many = len(first) if names[0] == "readings" else len(first[0])
    if name == "sums":
        return [value for value, _ in no_rows(len(first))]
    if name == "fraction":
        return [value for value, _ in no_rows(1)] + [row[0] for row, index in no_rows(1) if index == 0]
    makers = {"amounts": no_amounts, "row": no_rows, "signs": no_signs, "lot": no_lots}
    return [value for value, _ in makers[name](many)]


def least_cost_of(table, amounts, sums):
    if not some_row_has(table, sums):
        return None
    return pair(plain_cost(amounts, searched_corners(table, amounts, sums)[0]))


def signed_pairs(table, amounts, signs):
    return [signed_and_off(amounts, row, signs) for row in searched_least(table)]


def of_claim(parts):
    """A right claim of each name; those with a fraction only where they are so."""
    claims = []
    for name, told in PARTS.items():
        names = told.split()
        if names[-1] != "fraction":
            claims.append((name,) + arguments_for(names, parts))
    table, amounts = parts["table"], parts["amounts"]
    if are_back(table, amounts, parts["count"]):
        told = plain_factor(table, amounts, parts["count"])
        claims.append(("factor", table, amounts, parts["count"], told))
    cost = least_cost_of(table, amounts, parts["sums"])
    claims.append(("least cost", table, amounts, parts["sums"], cost))
    return claims

