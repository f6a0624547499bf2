"""Bases: the curves of a bounded power that pass what was told, offer by offer."""

from allnear.checks import is_prime, is_sign, is_within
from allnear.curves import Curve, sign_at
from allnear.errors import BadBase, BadNumber, TooMany, Twice
from allnear.signs import begun_shifted, inverse_of, lessened, product_of
from allnear.terms import MOST_CONDITIONS, many_conditions, need_k, span_of

MOST_POWER = 20
MOST_TIMES = 16


class Base:
    """What the curves modulo p, of power most at most, are that pass what was told; nothing is told at first."""

    def __init__(self, p, k, most):
        if not is_prime(p):
            raise BadBase("p")
        need_k(k)
        if not is_within(most, 0, MOST_POWER):
            raise BadNumber("most")
        self.p = p
        self.k = k
        self.most = most
        self.passed = ()
        self.conditions = 0
        self.least = Curve(p, [[1]])
        # For each power j the rows of a curve that passes what was told: of those with a leading term in y^j the
        # one whose leading term is least, with the coefficient 1.
        self._grown = [[(1,) if row == j else () for row in range(most + 1)] for j in range(most + 1)]

    def __eq__(self, other):
        return (type(self) is type(other) and self.p == other.p and self.k == other.k and self.most == other.most
                and self.passed == other.passed)

    def passing(self, a, b, times):
        """The base to which it is told, too, that curves pass a, b so many times."""
        if not is_sign(self.p, a):
            raise BadNumber("a")
        if not is_sign(self.p, b):
            raise BadNumber("b")
        if not is_within(times, 1, MOST_TIMES):
            raise BadNumber("times")
        if any([(one, other) == (a, b) for one, other, _ in self.passed]):
            raise Twice((a, b))
        conditions = self.conditions + many_conditions([times])
        if conditions > MOST_CONDITIONS:
            raise TooMany("conditions", MOST_CONDITIONS)
        base = Base(self.p, self.k, self.most)
        base.passed = (*self.passed, (a, b, times))
        base.conditions = conditions
        base._grown = mended(self.p, self.k, self._grown, (a, b, times))
        base.least = Curve(self.p, base._grown[least_of(self.k, base._grown, list(range(self.most + 1)))])
        return base


def least_of(k, curves, powers):
    """The one of these powers whose curve has the least leading term."""
    leading = [(span_of(k, len(curves[j][j]) - 1, j), j) for j in powers]
    return min(leading)[1]


def square_around(p, rows, a, b, times):
    """The coefficients of x^i y^j around a, b, i and j below times, in rows as those of a curve."""
    moved = [begun_shifted(p, row, a, times) for row in rows]
    columns = [begun_shifted(p, column, b, times) for column in zip(*moved)]
    return [list(row) for row in zip(*columns)]


def mended(p, k, curves, point):
    """The rows of these curves, one for each power, mended until all pass a, b of the point its times."""
    a, b, times = point
    out = list(curves)
    squares = [square_around(p, rows, a, b, times) for rows in out]
    for j in range(times):
        for i in range(times - j):
            signs = [sign_at(square[j], i) for square in squares]
            wrong = [power for power, sign in enumerate(signs) if sign != 0]
            if wrong:
                one = least_of(k, out, wrong)
                out = cleared(p, out, one, signs)
                squares = cleared(p, squares, one, signs)
                # Times x - a, what the one has at x^(i - 1) comes to x^i; that is 0 already.
                out[one] = [product_of(p, row, (-a % p, 1)) for row in out[one]]
                squares[one] = [[0, *row[:times - 1]] for row in squares[one]]
    return out


def cleared(p, tables, one, signs):
    """From each other one of these tables so much of the one is taken as brings its sign to 0."""
    turn = inverse_of(p, signs[one])
    return [rows if sign == 0 or at == one else lessened_rows(p, rows, sign * turn, tables[one])
            for at, (rows, sign) in enumerate(zip(tables, signs))]


def lessened_rows(p, rows, factor, others):
    """Row by row, less so many times the others' rows."""
    return [lessened(p, row, factor, other) for row, other in zip(rows, others)]
