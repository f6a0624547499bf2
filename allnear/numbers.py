"""Whole numbers whose rests are right often enough, and the polynomial that shows that there are no others."""

from allnear.checks import is_within
from allnear.errors import BadNumber, Beyond
from allnear.papers import Paper, fixed
from allnear.rests import need_rests
from allnear.roots import whole_roots
from allnear.rows import shortened
from allnear.wholes import raised_by, to_power

MOST_ROWS = 6


class AllNumbers(Paper):
    """All numbers of a worth or more, and a polynomial and an m that show it."""

    def __init__(self, numbers, polynomial, m):
        self.word = "allnumbers"
        self.parts = fixed((numbers, polynomial, m))
        self.numbers, self.polynomial, self.m = self.parts


def enough_for(rests, worth):
    """The first pair (m, d) by which the worth is enough, None if it is not."""
    need_asked(rests, worth)
    return first_pair(rests, worth)


def least_worth(rests):
    """The least worth that is enough, None if none is."""
    need_rests(rests)
    if first_pair(rests, rests.product) is None:
        return None
    low, high = 2, rests.product
    while low < high:
        middle = (low + high) // 2
        if first_pair(rests, middle) is None:
            low = middle + 1
        else:
            high = middle
    return high


def all_numbers(rests, worth):
    """The AllNumbers of all numbers of this worth or more."""
    pair = enough_for(rests, worth)
    if pair is None:
        raise Beyond(least_worth(rests))
    m, size = pair
    polynomial = small_polynomial(rests, m, size)
    return AllNumbers(numbers_among(rests, worth, polynomial), polynomial, m)


def need_asked(rests, worth):
    """Nothing, but these must be Rests and a worth for them."""
    need_rests(rests)
    if not is_within(worth, 2, rests.product):
        raise BadNumber("worth")


def first_pair(rests, worth):
    """The first m, and for it the first number of rows, by which the worth is enough; None without one."""
    for m in (1, 2):
        for size in range(m + 1, MOST_ROWS + 1):
            if is_enough(rests, worth, m, size):
                return m, size
    return None


def is_enough(rests, worth, m, size):
    """Whether the worth is enough by m and so many rows."""
    steps = size * (size - 1)
    least = to_power(size, size) * to_power(2, steps // 2)
    least = least * to_power(rests.product, m * (m + 1)) * to_power(rests.most, steps)
    return least < to_power(worth, 2 * m * size)


def small_polynomial(rests, m, size):
    """A polynomial of so many coefficients that is divisible m times, small for each worth that is enough so."""
    factors = [to_power(rests.most, power) for power in range(size)]
    rows = [[number * factor for number, factor in zip(row, factors)] for row in divisible_rows(rests, m, size)]
    return [number // factor for number, factor in zip(shortened(rows)[0], factors)]


def divisible_rows(rests, m, size):
    """So many polynomials, of all degrees below it, that are divisible m times, with zeros behind their ends."""
    rows = []
    row = [1]
    for power in range(size):
        factor = to_power(rests.product, max(0, m - power))
        rows.append([*[number * factor for number in row], *[0] * (size - 1 - power)])
        # Up to m times the factor is z less the number that leaves all rests, from there on z.
        row = raised_by(row, -rests.number if power < m else 0)
    return rows


def numbers_among(rests, worth, polynomial):
    """The roots of the polynomial, from 0 to the greatest number meant, that have this worth or more."""
    return tuple([root for root in whole_roots(polynomial, 0, rests.most) if rests.worth(root) >= worth])
