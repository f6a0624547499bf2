"""The least curve that passes each offer of a reading."""

from allnear.bases import Base
from allnear.errors import TooMany
from allnear.reaches import conditions_of
from allnear.terms import MOST_CONDITIONS, many_terms


def least_curve(reading, m):
    """The least curve that passes each offer m times its weight times."""
    conditions = conditions_of(reading, m)
    if conditions > MOST_CONDITIONS:
        raise TooMany("conditions", MOST_CONDITIONS)
    scheme = reading.scheme
    # Of this span some curve meets all conditions, so no power above it is needed.
    base = Base(scheme.p, scheme.k, span_for(scheme.k, conditions) // (scheme.k - 1))
    for place, value, weight in reading.points:
        base = base.passing(place, value, m * weight)
    return base.least


def span_for(k, conditions):
    """The least span with more terms than conditions."""
    span = 0
    while many_terms(k, span) <= conditions:
        span = span + 1
    return span
