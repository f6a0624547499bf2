"""Checks of values of any kind; True and False are no integers."""

from allnear.papers import fixed

PRIMES = (2, 3, 5, 7, 11, 13, 17, 19, 23, 29, 31, 37, 41, 43, 47, 53, 59, 61, 67, 71, 73, 79, 83, 89, 97)


def is_integer(value):
    """Whether it is an integer."""
    return isinstance(value, int) and not isinstance(value, bool)


def is_within(value, least, most):
    """Whether it is an integer from least to most; None is no bound."""
    if not is_integer(value):
        return False
    return (least is None or least <= value) and (most is None or value <= most)


def is_list(value):
    """Whether it is a list or a tuple: these may be passed for one another."""
    return isinstance(value, (list, tuple))


def is_numbers(value):
    """Whether it is a list or tuple of integers."""
    return is_list(value) and all([is_integer(one) for one in value])


def is_prime(value):
    """Whether it is one of PRIMES."""
    return is_integer(value) and value in PRIMES


def is_sign(p, value):
    """Whether p is a prime, and value a sign modulo p."""
    return is_prime(p) and is_within(value, 0, p - 1)


def is_signs(p, value):
    """Whether it is a list or tuple of signs modulo the prime p."""
    return is_list(value) and all([is_within(one, 0, p - 1) for one in value])


def flat(value):
    """An integer, or nested lists or tuples, as one list, with strings where brackets were."""
    if not is_list(value):
        return [value]
    return ["(", *[item for part in value for item in flat(part)], ")"]


def first_twice(values):
    """The first of these integers or tuples that equals one ahead of it, None without one."""
    seen = set()
    for value in values:
        # A nested tuple may be too deep for a member of a set, a flat one never is.
        key = tuple(flat(value))
        if key in seen:
            return fixed(value)
        seen.add(key)
    return None
