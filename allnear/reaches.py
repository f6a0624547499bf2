"""Reaches: from which score on a curve shows all words that are near."""

from allnear.checks import is_within
from allnear.errors import BadNumber
from allnear.readings import need_reading
from allnear.terms import MOST_CONDITIONS, many_conditions, many_terms


def need_score(t):
    """Nothing, but this must be a score from 1 on."""
    if not is_within(t, 1, None):
        raise BadNumber("t")


def conditions_of(reading, m):
    """How many conditions it is to pass each offer m times its weight times."""
    need_reading(reading)
    if not is_within(m, 1, None):
        raise BadNumber("m")
    return many_conditions([m * weight for _, _, weight in reading.points])


def enough(reading, t):
    """The least m that is enough for the score t, None if none is."""
    need_reading(reading)
    need_score(t)
    m = 1
    conditions = conditions_of(reading, m)
    # Without an offer m 1 is enough; with one the conditions grow.
    while conditions <= MOST_CONDITIONS:
        if many_terms(reading.scheme.k, m * t - 1) > conditions:
            return m
        m = m + 1
        conditions = conditions_of(reading, m)
    return None


def reach(reading):
    """The least score that is enough, and the least m that is enough for it."""
    need_reading(reading)
    t = 1
    m = enough(reading, t)
    while m is None:
        t = t + 1
        m = enough(reading, t)
    return t, m
