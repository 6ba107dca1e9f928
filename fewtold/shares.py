"""What of each least dependence stands at some places against what stands at the others.

All is reckoned in whole numbers: least dependences and amounts are multiplied by
what makes them whole, each by one number, which changes no quotient and no order.
The weights of a dependence are its numbers, each times the amount at its place; a
pair is what some places cost together and what the others do.
"""

from fewtold.columns import least_marks
from fewtold.rows import NOUGHT, reduced, whole_product, whole_row


def weights_of(marks, wholes):
    """Whole numbers, each times the one of the amounts at its place."""
    return [mark * whole for mark, whole in zip(marks, wholes)]


def least_weights(table, amounts):
    """The weights of each least dependence, in the order of the lots."""
    wholes = whole_row(amounts)
    return [weights_of(marks, wholes) for marks in least_marks(table)]


def dearest_lot(weights, count):
    """The dearest places, so many, of weights; of several equal ones the first."""
    ranked = sorted([(-abs(weight), place) for place, weight in enumerate(weights)])
    return [place for _, place in ranked[:count]]


def lot_pair(weights, lot):
    """What stands on the lot costs, and what stands elsewhere."""
    on_lot = sum(abs(weights[place]) for place in lot)
    return (on_lot, sum(abs(weight) for weight in weights) - on_lot)


def dearest_pair(weights, count):
    """What the dearest places, so many, cost, and what the others do."""
    return lot_pair(weights, dearest_lot(weights, count))


def barring_marks(least, wholes, count, margin=0):
    """The first least dependence whose dearest places, and a margin, do not cost less than the others; None."""
    for marks in least:
        dearest, others = dearest_pair(weights_of(marks, wholes), count)
        if dearest + margin >= others:
            return marks
    return None


def barring_on(least, wholes, lot):
    """The first least dependence that does not cost less on the lot than elsewhere; None."""
    for marks in least:
        on_lot, elsewhere = lot_pair(weights_of(marks, wholes), lot)
        if on_lot >= elsewhere:
            return marks
    return None


def signed_sum(weights, signs):
    """The sum of the weights, each times the sign at its place."""
    return whole_product(weights, signs)


def rise_along(weights, signs):
    """What the weights add to the cost of a row of these signs, as long as no sign turns."""
    return signed_sum(weights, signs) + signed_pair(weights, signs)[1]


def signed_pair(weights, signs):
    """The size of the sum of the weights times their signs, and the cost where the sign is 0."""
    elsewhere = sum(abs(weight) for weight, sign in zip(weights, signs) if sign == 0)
    return (abs(signed_sum(weights, signs)), elsewhere)


def are_below(pairs):
    """Whether the first of each pair is less than the second."""
    return all(one < other for one, other in pairs)


def greatest_quotient(pairs):
    """The greatest of the first of a pair divided by the second, 0 if there is no pair.

    None if some second one is 0: some least dependence then has no other places.
    """
    best = NOUGHT
    for one, other in pairs:
        if other == 0:
            return None
        if one * best[1] > best[0] * other:
            best = reduced(one, other)
    return best
