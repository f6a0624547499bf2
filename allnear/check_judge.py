"""The check of the judge: places are counted."""

from allnear.checks import is_signs
from allnear.judge import Alone, Twins, is_alone, need_asked
from allnear.signs import value_at


def shows_alone(scheme, t, value):
    """Whether it is the Alone, or Twins, for t right places on this scheme."""
    need_asked(scheme, t)
    if type(value) is Alone:
        return is_alone(scheme, t)
    return type(value) is Twins and are_twins(scheme, t, value)


def are_twins(scheme, t, value):
    """Whether these are two words that are right at t places of the row, or more."""
    if not all([is_row(scheme, word, scheme.k) for word in (value.one, value.other)]):
        return False
    if value.one == value.other or not is_row(scheme, value.row, len(scheme)):
        return False
    return all([right_places(scheme, word, value.row) >= t for word in (value.one, value.other)])


def is_row(scheme, value, size):
    """Whether it is a list of so many signs."""
    return is_signs(scheme.p, value) and len(value) == size


def right_places(scheme, word, row):
    """How many places have the value of the word in the row."""
    return len([place for place, sign in zip(scheme.places, row) if value_at(scheme.p, word, place) == sign])
