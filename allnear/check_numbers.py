"""The check of numbers: the polynomial is divisible and small, and its roots tell the numbers."""

from allnear.checks import is_numbers, is_within
from allnear.numbers import AllNumbers, need_asked, numbers_among
from allnear.wholes import is_whole, to_power, whole_around, whole_value

MOST_M = 12


def shows_numbers(rests, worth, value):
    """Whether it is an AllNumbers of all numbers of this worth or more."""
    need_asked(rests, worth)
    if type(value) is not AllNumbers or not is_within(value.m, 1, MOST_M) or not is_whole(value.polynomial):
        return False
    if not is_small(rests, worth, value.polynomial, value.m):
        return False
    if not is_divisible(rests, value.polynomial, value.m):
        return False
    return is_numbers(value.numbers) and value.numbers == numbers_among(rests, worth, value.polynomial)


def is_small(rests, worth, polynomial, m):
    """Whether all values at numbers, also with any other signs, are below the worth to the power m."""
    return whole_value([abs(number) for number in polynomial], rests.most) < to_power(worth, m)


def is_divisible(rests, polynomial, m):
    """Whether the polynomial is divisible m times by the rests."""
    return all([is_divisible_at(polynomial, m, prime, rest) for prime, rest in zip(rests.primes, rests.rests)
                if rest is not None])


def is_divisible_at(polynomial, m, prime, rest):
    """Whether around the rest the first m coefficients are divisible by powers of the prime, from its m-th down."""
    around = whole_around(polynomial, rest)
    return all([number % to_power(prime, m - power) == 0 for power, number in enumerate(around[:m])])
