"""Polynomials modulo a prime."""

from allnear.checks import first_twice, is_integer, is_list, is_numbers, is_prime, is_signs
from allnear.errors import BadNumber, BadPoly, BadText, ByZero, Misfit, Twice
from allnear.signs import (
    composed, difference_of, inverse_of, power_of, product_of, quotient_and_rest, row_from, scaled, shifted, sum_of,
    value_at,
)
from allnear.texts import items_of, read_number, read_prime, read_word


class Poly:
    """The polynomial modulo p with these coefficients, the constant one first."""

    def __init__(self, p, coefficients=()):
        if not is_prime(p):
            raise BadPoly("p")
        if not is_numbers(coefficients):
            raise BadPoly("coefficients")
        self.p = p
        self.coefficients = row_from(p, coefficients)
        self.degree = len(self.coefficients) - 1

    def __eq__(self, other):
        return type(self) is type(other) and self.p == other.p and self.coefficients == other.coefficients

    def __str__(self):
        return " ".join([str(self.p), ":", *[str(sign) for sign in self.coefficients]])

    def __call__(self, x):
        if not is_integer(x):
            raise BadNumber("x")
        return value_at(self.p, self.coefficients, x)

    def __add__(self, other):
        need_fitting(self, other)
        return Poly(self.p, sum_of(self.p, self.coefficients, other.coefficients))

    def __sub__(self, other):
        need_fitting(self, other)
        return Poly(self.p, difference_of(self.p, self.coefficients, other.coefficients))

    def __mul__(self, other):
        need_fitting(self, other)
        return Poly(self.p, product_of(self.p, self.coefficients, other.coefficients))

    def __floordiv__(self, other):
        need_divisor(self, other)
        quotient, _ = quotient_and_rest(self.p, self.coefficients, other.coefficients)
        return Poly(self.p, quotient)

    def __mod__(self, other):
        need_divisor(self, other)
        _, rest = quotient_and_rest(self.p, self.coefficients, other.coefficients)
        return Poly(self.p, rest)

    def __neg__(self):
        return Poly(self.p, scaled(self.p, self.coefficients, -1))

    def __pow__(self, other):
        return Poly(self.p, power_of(self.p, self.coefficients, other))

    def moved(self, shift, stretch=1):
        """The polynomial with stretch x + shift put for x."""
        if not is_integer(shift):
            raise BadNumber("shift")
        if not is_integer(stretch):
            raise BadNumber("stretch")
        factor = 1
        stretched = []
        for sign in shifted(self.p, self.coefficients, shift):
            stretched.append(sign * factor)
            factor = factor * stretch % self.p
        return Poly(self.p, stretched)

    def at(self, other):
        """The polynomial with other put for x."""
        need_fitting(self, other)
        return Poly(self.p, composed(self.p, self.coefficients, other.coefficients))

    @staticmethod
    def read(text):
        """The polynomial with this text."""
        items = items_of(text)
        p = read_prime(items, 0)
        read_word(items, 1, ":")
        signs = [read_number(items, at, 0, p - 1) for at in range(2, len(items))]
        if signs and signs[-1] == 0:
            raise BadText(0, len(items) - 1)
        return Poly(p, signs)


def need_fitting(poly, other):
    """Nothing, but other must be a polynomial that fits to poly."""
    if not isinstance(other, Poly):
        raise BadPoly("other")
    if other.p != poly.p:
        raise Misfit("p")


def need_divisor(poly, other):
    """Nothing, but other must be a polynomial by which poly can be divided."""
    need_fitting(poly, other)
    if not other.coefficients:
        raise ByZero()


def inverse(p, sign):
    """The inverse of any integer, taken modulo p."""
    if not is_prime(p):
        raise BadNumber("p")
    if not is_integer(sign):
        raise BadNumber("sign")
    if sign % p == 0:
        raise ByZero()
    return inverse_of(p, sign % p)


def roots(poly):
    """All signs at which the polynomial is 0, ascending."""
    if not isinstance(poly, Poly):
        raise BadPoly("poly")
    return tuple([x for x in range(poly.p) if value_at(poly.p, poly.coefficients, x) == 0])


def shared(one, other):
    """The shared polynomial, its last coefficient 1; zero if both are."""
    if not isinstance(one, Poly):
        raise BadPoly("one")
    need_fitting(one, other)
    p, row, rest = one.p, one.coefficients, other.coefficients
    while rest:
        row, rest = rest, quotient_and_rest(p, row, rest)[1]
    return Poly(p, scaled(p, row, inverse_of(p, row[-1])) if row else ())


def is_points(p, points):
    """Whether it is a list of pairs of signs."""
    return is_list(points) and all([is_signs(p, point) and len(point) == 2 for point in points])


def through(p, points):
    """The polynomial of the least degree that has the value b at a for each pair (a, b)."""
    if not is_prime(p):
        raise BadNumber("p")
    if not is_points(p, points):
        raise BadPoly("points")
    twice = first_twice([a for a, _ in points])
    if twice is not None:
        raise Twice(twice)
    row, roots_row = (), (1,)
    for a, b in points:
        # roots_row is 0 at the points ahead: so much of it as mends this one spoils none of them.
        factor = (b - value_at(p, row, a)) * inverse_of(p, value_at(p, roots_row, a))
        row = sum_of(p, row, scaled(p, roots_row, factor))
        roots_row = product_of(p, roots_row, (-a % p, 1))
    return Poly(p, row)
