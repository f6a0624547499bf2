"""Terms of curves: their spans, their order, and how many conditions times of passing are."""

from allnear.checks import is_integer, is_numbers, is_within
from allnear.errors import BadNumber

MOST_SPAN = 100
# More conditions than these are asked of no curve.
MOST_CONDITIONS = 150


def need_k(k):
    """Nothing, but this must be a k from 2 to 6."""
    if not is_within(k, 2, 6):
        raise BadNumber("k")


def need_term(i, j):
    """Nothing, but these must be the powers of a term."""
    if not is_within(i, 0, None):
        raise BadNumber("i")
    if not is_within(j, 0, None):
        raise BadNumber("j")


def span_of(k, i, j):
    """The span of the term x^i y^j."""
    need_k(k)
    need_term(i, j)
    return i + (k - 1) * j


def many_terms(k, span):
    """How many terms have this span at most."""
    need_k(k)
    if not is_integer(span):
        raise BadNumber("span")
    if span < 0:
        return 0
    # Of power j there are span - (k - 1) j + 1 terms, one more than what is left of the span.
    powers = span // (k - 1)
    return (powers + 1) * (span + 1) - (k - 1) * (powers * (powers + 1) // 2)


def terms_to(k, span):
    """The terms of this span at most, ascending by their spans, then by j."""
    need_k(k)
    if not is_within(span, None, MOST_SPAN):
        raise BadNumber("span")
    return tuple([(one - (k - 1) * j, j) for one in range(span + 1) for j in range(one // (k - 1) + 1)])


def many_conditions(times):
    """How many conditions it is to pass so many times, added up over a list of times."""
    if not is_numbers(times) or any([one < 0 for one in times]):
        raise BadNumber("times")
    return sum([one * (one + 1) // 2 for one in times])
