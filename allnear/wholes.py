"""Rows of integers as whole polynomials, the constant one first; nothing is taken modulo anything.

Nothing is checked here but by `is_whole`.
"""

from allnear.checks import is_numbers

MOST_COEFFICIENTS = 12


def is_whole(value):
    """Whether it is a list of 1 to 12 integers, not all 0."""
    return is_numbers(value) and len(value) <= MOST_COEFFICIENTS and any([one != 0 for one in value])


def to_power(number, power):
    """An integer to a power from 0 on."""
    out = 1
    for _ in range(power):
        out = out * number
    return out


def whole_value(row, x):
    """The value at any integer."""
    value = 0
    for number in row[::-1]:
        value = value * x + number
    return value


def raised_by(row, shift):
    """The row of the polynomial times x + shift."""
    return [low + shift * high for low, high in zip([0, *row], [*row, 0])]


def whole_around(row, shift):
    """The row with shift + x put for x."""
    out = []
    for number in row[::-1]:
        # What is there is taken times x + shift, then the next number comes in.
        out = raised_by(out, shift)
        out[0] = out[0] + number
    return out
