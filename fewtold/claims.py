"""What claims for the checker are made of."""

from fewtold.checks import (
    are_amounts, are_readings, are_signs, has_table_form, is_count, is_fraction, is_lot_of, is_row_of,
)

PARTS = {
    "told": ("table", "count"),
    "untold": ("table", "count"),
    "back": ("table", "amounts", "count"),
    "not back": ("table", "amounts", "count"),
    "factor": ("table", "amounts", "count", "fraction"),
    "some amounts": ("table", "count"),
    "no amounts": ("table", "count"),
    "least cost": ("table", "amounts", "sums", "fraction"),
    "only cheapest": ("table", "amounts", "row"),
    "not only cheapest": ("table", "amounts", "row"),
    "signs back": ("table", "amounts", "signs"),
    "signs lost": ("table", "amounts", "signs"),
    "lot back": ("table", "amounts", "lot"),
    "lot lost": ("table", "amounts", "lot"),
    "only above": ("table", "count"),
    "not only above": ("table", "count"),
    "lot above": ("table", "lot"),
    "lot not above": ("table", "lot"),
    "back above": ("table", "amounts", "count"),
    "lost above": ("table", "amounts", "count"),
    "greedy": ("table", "lot"),
    "strays": ("table", "lot"),
    "mends": ("readings", "amounts", "count"),
    "does not mend": ("readings", "amounts", "count"),
}


def is_claim(value):
    """Whether a value, whatever it is, is a claim of a told name with right parts."""
    if type(value) is not tuple or len(value) == 0:
        return False
    name = value[0]
    # Asked for first: a value of another kind may be no key, or equal to what it likes.
    if type(name) is not str or name not in PARTS:
        return False
    kinds = PARTS[name]
    return len(value) == len(kinds) + 1 and _are_parts(kinds, value[1:])


def _are_parts(kinds, parts):
    """Whether parts are of these kinds, the first being a table or readings."""
    first = parts[0]
    if kinds[0] == "readings":
        if not are_readings(first):
            return False
        return _are_others(kinds, parts, len(first), len(first))
    if not has_table_form(first):
        return False
    return _are_others(kinds, parts, len(first[0]), len(first))


def _are_others(kinds, parts, width, height):
    """Whether all parts but the first are of their kinds; a row has as many places as the width says."""
    return all(_is_part(kind, part, width, height) for kind, part in zip(kinds[1:], parts[1:]))


def _is_part(kind, part, width, height):
    """Whether a value is of a kind that hangs on the width and the height."""
    if kind == "count":
        return is_count(part)
    if kind == "amounts":
        return are_amounts(part, width)
    if kind == "row":
        return is_row_of(part, width)
    if kind == "sums":
        return is_row_of(part, height)
    if kind == "signs":
        return are_signs(part, width)
    if kind == "lot":
        return is_lot_of(part, width)
    return is_fraction(part)
