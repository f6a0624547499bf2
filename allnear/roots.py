"""Whole roots of whole polynomials, by halving."""

from allnear.checks import is_integer, is_within
from allnear.errors import BadNumber, BadRows
from allnear.wholes import is_whole, to_power, whole_around, whole_value


def whole_roots(coefficients, low, high):
    """The whole roots from low to high, ascending, each once."""
    if not is_whole(coefficients):
        raise BadRows("coefficients")
    if not is_integer(low):
        raise BadNumber("low")
    if not is_within(high, low, None):
        raise BadNumber("high")
    row = without_last_zeros(coefficients)
    far = bound_of_roots(row)
    return roots_between(row, max(low, -far), min(high, far))


def without_last_zeros(row):
    """The row, not all 0, without the zeros at its end."""
    size = len(row)
    while row[size - 1] == 0:
        size = size - 1
    return row[:size]


def bound_of_roots(row):
    """An integer, such that no root is further away from 0."""
    sizes = [abs(number) for number in row]
    others = sizes[:-1]
    far = 1
    # From there on the last part of the value is greater than all others together.
    while sizes[-1] * to_power(far, len(others)) <= whole_value(others, far):
        far = 2 * far
    return far


def roots_between(row, low, high):
    """The whole roots from low to high of a row that does not end with 0."""
    if low > high:
        return ()
    starts = [low, *turns_of(row, low, high)]
    ends = [*starts[1:], high + 1]
    return tuple([x for start, end in zip(starts, ends) if whole_value(row, start) == 0 for x in range(start, end)])


def turns_of(row, low, high):
    """Where, behind low and up to high, the sign is another one than at the integer just ahead; ascending."""
    if len(row) < 2 or low >= high:
        return []
    # From one of these ends to the next one the values only rise, only fall, or stay.
    ends = [low, *turns_of(differences(row), low, high - 1), high]
    turns = []
    for start, end in zip(ends, ends[1:]):
        at = start
        while sign_at(row, at) != sign_at(row, end):
            at = first_turn(row, at, end)
            turns.append(at)
    return turns


def differences(row):
    """The row of the polynomial that tells how much the value rises to the next integer."""
    return [after - before for after, before in zip(whole_around(row, 1), row)][:-1]


def sign_at(row, x):
    """The sign of the value: -1, 0 or 1."""
    value = whole_value(row, x)
    if value == 0:
        return 0
    return 1 if value > 0 else -1


def first_turn(row, start, end):
    """The first integer behind start with another sign; the end has one, and between them no sign comes again."""
    sign = sign_at(row, start)
    same, other = start, end
    while other - same > 1:
        middle = (same + other) // 2
        if sign_at(row, middle) == sign:
            same = middle
        else:
            other = middle
    return other
