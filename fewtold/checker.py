"""Whether a paper shows a claim, whoever wrote them.

Where a paper is looked at, the parts of the claim are right, and the paper may be
anything. The claims that are looked at without a paper are reckoned out.
"""

from fewtold.above import is_back_above, is_only_above
from fewtold.back import factor, is_back
from fewtold.checks import are_amounts, is_amount, is_lot_of, is_row_of, is_tuple_of
from fewtold.claims import is_claim
from fewtold.columns import are_free
from fewtold.errors import NotBack
from fewtold.greedy import is_greedy
from fewtold.readings import does_mend
from fewtold.rows import (
    NOUGHT, all_sums, cost_of, is_below, is_dependence_of, lot_of, products_of, row_minus, row_on, row_plus,
    row_times, signs_of, size_of, sizes_of, sum_of_products, times, whole_row,
)
from fewtold.shares import dearest_pair, lot_pair, rise_along, weights_of
from fewtold.signs import is_lot_back
from fewtold.told import is_told
from fewtold.upward import number_below, sums_off


def _is_empty(paper):
    """Whether a paper is ()."""
    return is_tuple_of(paper, 0)


def _is_dependence(table, value):
    """Whether a value is a dependence of a table."""
    return is_row_of(value, len(table[0])) and is_dependence_of(table, value)


def _weights(amounts, row):
    """The numbers of a row times the amounts, all times one whole number."""
    return weights_of(whole_row(row), whole_row(amounts))


def _is_dear(amounts, row, count):
    """Whether the dearest places of a row, so many, do not cost less than the others."""
    dearest, others = dearest_pair(_weights(amounts, row), count)
    return dearest >= others


def _shows_told(parts, paper):
    table, count = parts
    return _is_empty(paper) and is_told(table, count)


def _shows_untold(parts, paper):
    table, count = parts
    if not is_tuple_of(paper, 2) or not all(is_row_of(row, len(table[0])) for row in paper):
        return False
    one, other = paper
    if len(lot_of(one)) > count or len(lot_of(other)) > count:
        return False
    return is_dependence_of(table, row_minus(one, other))


def _shows_back(parts, paper):
    table, amounts, count = parts
    return _is_empty(paper) and is_back(table, amounts, count)


def _shows_not_back(parts, paper):
    table, amounts, count = parts
    return _is_dependence(table, paper) and _is_dear(amounts, paper, count)


def _shows_factor(parts, paper):
    table, amounts, count, told = parts
    if not _is_empty(paper):
        return False
    try:
        return factor(table, amounts, count) == told
    except NotBack:
        return False


def _shows_some_amounts(parts, paper):
    table, count = parts
    return are_amounts(paper, len(table[0])) and is_back(table, paper, count)


def _is_step(table, count, value):
    """Whether a value is a dependence, a lot of at most so many places, and an amount."""
    if not is_tuple_of(value, 3):
        return False
    row, lot, amount = value
    if not is_lot_of(lot, len(table[0])) or len(lot) > count:
        return False
    return is_amount(amount) and _is_dependence(table, row)


def _step_row(row, lot, amount):
    """The sizes of a row, those on a lot with the opposite sign, times an amount."""
    sizes = sizes_of(row)
    on_lot = row_on(sizes, lot)
    return row_times(amount, row_minus(row_minus(sizes, on_lot), on_lot))


def _shows_no_amounts(parts, paper):
    table, count = parts
    if type(paper) is not tuple or not all(_is_step(table, count, step) for step in paper):
        return False
    total = (NOUGHT,) * len(table[0])
    for row, lot, amount in paper:
        total = row_plus(total, _step_row(row, lot, amount))
    return len(paper) > 0 and all(top <= 0 for top, _ in total)


def _shows_least_cost(parts, paper):
    table, amounts, sums, told = parts
    if not is_tuple_of(paper, 2):
        return False
    row, prices = paper
    if not is_row_of(row, len(amounts)) or not is_row_of(prices, len(sums)):
        return False
    if all_sums(table, row) != sums or cost_of(amounts, row) != told or sum_of_products(sums, prices) != told:
        return False
    products = products_of(table, prices)
    return not any(is_below(amount, size_of(product)) for amount, product in zip(amounts, products))


def _is_showing(table, amounts, signs, value):
    """Whether a value is a row that shows the rows of these signs, their lot being free."""
    lot = tuple(place for place, sign in enumerate(signs) if sign != 0)
    if not is_row_of(value, len(table)) or not are_free(table, lot):
        return False
    for product, amount, sign in zip(products_of(table, value), amounts, signs):
        if sign == 0 and not is_below(size_of(product), amount):
            return False
        if sign != 0 and product != times((sign, 1), amount):
            return False
    return True


def _shows_only_cheapest(parts, paper):
    table, amounts, row = parts
    return _is_showing(table, amounts, signs_of(row), paper)


def _shows_not_only_cheapest(parts, paper):
    table, amounts, row = parts
    if not _is_dependence(table, paper):
        return False
    return not is_below(cost_of(amounts, row), cost_of(amounts, row_plus(row, paper)))


def _shows_signs_back(parts, paper):
    table, amounts, signs = parts
    return _is_showing(table, amounts, signs, paper)


def _shows_signs_lost(parts, paper):
    table, amounts, signs = parts
    return _is_dependence(table, paper) and rise_along(_weights(amounts, paper), signs) <= 0


def _shows_lot_back(parts, paper):
    table, amounts, lot = parts
    return _is_empty(paper) and is_lot_back(table, amounts, lot)


def _shows_lot_lost(parts, paper):
    table, amounts, lot = parts
    if not _is_dependence(table, paper):
        return False
    on_lot, elsewhere = lot_pair(_weights(amounts, paper), lot)
    return on_lot >= elsewhere


def _shows_only_above(parts, paper):
    table, count = parts
    return _is_empty(paper) and is_only_above(table, count)


def _shows_not_only_above(parts, paper):
    table, count = parts
    return _is_dependence(table, paper) and number_below(whole_row(paper)) <= count


def _shows_lot_above(parts, paper):
    table, lot = parts
    if not is_row_of(paper, len(table)) or not are_free(table, lot):
        return False
    signs = signs_of(products_of(table, paper))
    return all(sign == int(place not in lot) for place, sign in enumerate(signs))


def _shows_lot_not_above(parts, paper):
    table, lot = parts
    return _is_dependence(table, paper) and sums_off(whole_row(paper), lot)[0] == 0


def _shows_back_above(parts, paper):
    table, amounts, count = parts
    return _is_empty(paper) and is_back_above(table, amounts, count)


def _shows_lost_above(parts, paper):
    table, amounts, count = parts
    if not _is_dependence(table, paper) or number_below(whole_row(paper)) > count:
        return False
    return sum(_weights(amounts, paper)) <= 0


def _shows_greedy(parts, paper):
    table, lot = parts
    return _is_empty(paper) and are_free(table, lot) and is_greedy(table, lot)


def _shows_strays(parts, paper):
    table, lot = parts
    if not are_free(table, lot) or not is_row_of(paper, len(table[0])):
        return False
    if lot_of(paper) == () or row_on(paper, lot) != paper:
        return False
    sizes = sizes_of(products_of(table, all_sums(table, paper)))
    # Some column of the lot pulls: the sums are those of a row on it, and not noughts.
    most = NOUGHT
    for place in lot:
        if is_below(most, sizes[place]):
            most = sizes[place]
    return any(place not in lot and not is_below(size, most) for place, size in enumerate(sizes))


def _shows_mends(parts, paper):
    readings, amounts, count = parts
    return _is_empty(paper) and does_mend(readings, amounts, count)


def _shows_does_not_mend(parts, paper):
    readings, amounts, count = parts
    if not is_row_of(paper, len(readings[0])) or lot_of(paper) == ():
        return False
    return _is_dear(amounts, all_sums(readings, paper), count)


PAPERS = {
    "told": _shows_told,
    "untold": _shows_untold,
    "back": _shows_back,
    "not back": _shows_not_back,
    "factor": _shows_factor,
    "some amounts": _shows_some_amounts,
    "no amounts": _shows_no_amounts,
    "least cost": _shows_least_cost,
    "only cheapest": _shows_only_cheapest,
    "not only cheapest": _shows_not_only_cheapest,
    "signs back": _shows_signs_back,
    "signs lost": _shows_signs_lost,
    "lot back": _shows_lot_back,
    "lot lost": _shows_lot_lost,
    "only above": _shows_only_above,
    "not only above": _shows_not_only_above,
    "lot above": _shows_lot_above,
    "lot not above": _shows_lot_not_above,
    "back above": _shows_back_above,
    "lost above": _shows_lost_above,
    "greedy": _shows_greedy,
    "strays": _shows_strays,
    "mends": _shows_mends,
    "does not mend": _shows_does_not_mend,
}


def accepts(claim, paper):
    """Whether a claim is one for the checker, and the paper one for it; both may be anything."""
    if not is_claim(claim):
        return False
    shows = PAPERS[claim[0]]
    return shows(claim[1:], paper)
