"""Curves that several tests look at, by the words that are their pieces."""

from allnear.curves import Curve
from allnear.polys import Poly
from tests.helper import Numbers, Odd
from tests.second import divisor, product_terms, rows_of

NO_CURVES = (None, True, 0, "5 : 1 /", [[1]], ((1,),), {}, Odd(), Curve, Poly(5, [1]))
NO_K = (None, True, False, "2", 2.0, [], [2], {}, Odd(), 0, 1, 7, -2, 10 ** 30)


def curve_of(p, words, rest=((1,),)):
    """The curve that is the rest times y - f(x) for each of the words."""
    terms = {(i, j): sign % p for j, row in enumerate(rest) for i, sign in enumerate(row) if sign % p}
    for word in words:
        terms = product_terms(p, terms, divisor(p, word))
    return Curve(p, rows_of(terms))


def some_products(p, k, seed):
    """Products of words, some of them several times, with rests of several kinds."""
    numbers = Numbers(seed)
    rests = [[[1]], [[0, 1]], [[0, 0, 0, p - 1]], [[1, 1, 1]], [[0, 1], [], [1]], [[1, 0, 1], [0, 1], [0, 0, 1]],
             [numbers.some(3, p) + [1], numbers.some(4, p), numbers.some(2, p) + [1]]]
    for at, rest in enumerate(rests):
        words = [numbers.some(k, p) for _ in range(1 + at % 3)]
        zero = [[0] * k] * (at % 2)
        yield curve_of(p, [word for word in words for _ in range(1 + numbers.below(3))] + zero, rest)


SMALL = [curve for seed, (p, k) in enumerate(((2, 2), (2, 3), (2, 6), (3, 2), (3, 4), (5, 2), (5, 3), (7, 2), (7, 3)))
         for curve in some_products(p, k, seed)]
