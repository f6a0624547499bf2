"""Looks: what the near words say of a sign, and where to look."""

from allnear.checks import is_sign
from allnear.errors import BadNumber, Impossible
from allnear.near import all_near
from allnear.reaches import need_score
from allnear.readings import need_reading
from allnear.signs import value_at


def values_at(reading, t, sign):
    """The values that the words near for t have at this sign, ascending, each once."""
    need_asked(reading, t)
    need_sign(reading, sign, "sign")
    return tuple(sorted(set(values_of(reading, all_near(reading, t).words, sign))))


def word_at(reading, t, sign, value):
    """Whether the value must, can or cannot stand at this sign, in the words near for t."""
    need_asked(reading, t)
    need_sign(reading, sign, "sign")
    need_sign(reading, value, "value")
    values = values_of(reading, some_near(reading, t).words, sign)
    many = values.count(value)
    if many == 0:
        return "cannot"
    return "must" if many == len(values) else "can"


def best_look(reading, t):
    """The first sign at which a look leaves the fewest words at the worst, and how many these are."""
    near = some_near(reading, t)
    many, sign = min([(left_at_worst(reading, near.words, sign), sign) for sign in range(reading.scheme.p)])
    return sign, many


def need_asked(reading, t):
    """Nothing, but these must be a reading and a score."""
    need_reading(reading)
    need_score(t)


def need_sign(reading, value, name):
    """Nothing, but the value of this parameter must be a sign of the scheme."""
    if not is_sign(reading.scheme.p, value):
        raise BadNumber(name)


def some_near(reading, t):
    """The All of the words near for t, of which there must be one at least."""
    near = all_near(reading, t)
    if not near.words:
        raise Impossible(near)
    return near


def values_of(reading, words, sign):
    """The values of the words at a sign, in their order."""
    return [value_at(reading.scheme.p, word, sign) for word in words]


def left_at_worst(reading, words, sign):
    """How many words have the value that most of them have at a sign."""
    values = values_of(reading, words, sign)
    return max([values.count(value) for value in values])
