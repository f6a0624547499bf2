"""Whole roots of whole polynomials, digit by digit."""

from allnear.checks import is_integer, is_within
from allnear.errors import BadNumber, BadRows
from allnear.wholes import is_whole, whole_around, whole_value

# Digits are from 0 to one less than this prime.
BASE = 97


def whole_roots(coefficients, low, high):
    """The whole roots from low to high, ascending, each once."""
    if not is_whole(coefficients):
        raise BadRows("coefficients")
    if not is_integer(low):
        raise BadNumber("low")
    if not is_within(high, low, None):
        raise BadNumber("high")
    row = without_last_zeros(coefficients)
    far = bound_of_roots(row)
    return roots_between(row, max(low, -far), min(high, far))


def without_last_zeros(row):
    """The row, not all 0, without the zeros at its end."""
    size = len(row)
    while row[size - 1] == 0:
        size = size - 1
    return row[:size]


def bound_of_roots(row):
    """An integer, such that no root of a row that does not end with 0 is further away from 0."""
    last = len(row) - 1
    bits = [abs(number).bit_length() for number in row]
    # At twice so great a number the other parts of the value are below a half, a quarter and so on of the last one.
    powers = [(bits[at] - bits[last]) // (last - at) + 1 for at in range(last)]
    return 1 << (max([0, *powers]) + 1)


def roots_between(row, low, high):
    """The whole roots from low to high of a row that is not all 0."""
    # Each way is an integer, and the row of the polynomial of how many units are added to it.
    ways = [(low, whole_around(row, low))]
    unit = 1
    while unit <= high - low:
        ways = [way for start, left in ways for way in next_ways(start, left, unit)]
        unit = unit * BASE
    return tuple(sorted([start for start, left in ways if left[0] == 0 and start <= high]))


def next_ways(start, left, unit):
    """The ways with one digit more: those that may lead to a root.

    A digit that is a root so many times, modulo the prime, leaves no more roots than these for the next digit. So
    there are at most as many ways as the degree.
    """
    bare = without_base(left)
    signs = [number % BASE for number in bare]
    return [(start + digit * unit, stretched(whole_around(bare, digit))) for digit in range(BASE)
            if whole_value(signs, digit) % BASE == 0]


def without_base(row):
    """The row divided by the base as often as all its numbers can be; they are not all 0."""
    out = row
    while all([number % BASE == 0 for number in out]):
        out = [number // BASE for number in out]
    return out


def stretched(row):
    """The row with the base times x put for x."""
    out = []
    factor = 1
    for number in row:
        out.append(number * factor)
        factor = factor * BASE
    return out
