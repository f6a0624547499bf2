"""Curves: polynomials in x and y modulo a prime, told by their rows."""

from allnear.checks import is_integer, is_list, is_numbers, is_prime
from allnear.errors import BadCurve, BadNumber, BadPoly, BadText, Misfit
from allnear.polys import Poly
from allnear.signs import inverse_of, product_of, row_from, scaled, shifted, sum_of
from allnear.terms import need_k, need_term, span_of
from allnear.texts import is_item, items_of, read_number, read_prime, read_word


class Curve:
    """The curve modulo p whose row j has the coefficients at y^j, that of x^0 first."""

    def __init__(self, p, rows):
        if not is_prime(p):
            raise BadCurve("p")
        if not is_list(rows) or not all([is_numbers(row) for row in rows]):
            raise BadCurve("rows")
        self.p = p
        self.rows = rows_from(p, rows)
        if not self.rows:
            raise BadCurve("rows")
        self.power = len(self.rows) - 1

    def __eq__(self, other):
        return type(self) is type(other) and self.p == other.p and self.rows == other.rows

    def __str__(self):
        rows = [" ".join([*[str(sign) for sign in row], "/"]) for row in self.rows]
        return " ".join([str(self.p), ":", *rows])

    def __mul__(self, other):
        if not isinstance(other, Curve):
            raise BadCurve("other")
        if other.p != self.p:
            raise Misfit("p")
        return Curve(self.p, product_rows(self.p, self.rows, other.rows))

    def coefficient(self, i, j):
        """The coefficient of the term x^i y^j, 0 where no term is."""
        need_term(i, j)
        return sign_at(self.rows[j], i) if j < len(self.rows) else 0

    def span(self, k):
        """The greatest span of its terms."""
        i, j = self.leading(k)
        return span_of(k, i, j)

    def leading(self, k):
        """Its last term, as terms ascend."""
        need_k(k)
        # In each row the last term has the greatest span; of equal spans the greater j is later.
        ends = [(len(row) - 1 + (k - 1) * j, j) for j, row in enumerate(self.rows) if row]
        _, j = max(ends)
        return len(self.rows[j]) - 1, j

    def led(self, k):
        """This curve times the sign that makes its leading coefficient 1."""
        i, j = self.leading(k)
        factor = inverse_of(self.p, self.rows[j][i])
        return Curve(self.p, [scaled(self.p, row, factor) for row in self.rows])

    def passes(self, a, b):
        """How many times it passes a, b."""
        rows = self.around(a, b).rows
        return min([i + j for j, row in enumerate(rows) for i, sign in enumerate(row) if sign != 0])

    def around(self, a, b):
        """The curve with a + x put for x and b + y for y."""
        if not is_integer(a):
            raise BadNumber("a")
        if not is_integer(b):
            raise BadNumber("b")
        moved = [shifted(self.p, row, a) for row in self.rows]
        columns = [shifted(self.p, column, b) for column in turned(moved)]
        return Curve(self.p, turned(columns))

    def along(self, poly):
        """The polynomial that it is with poly(x) put for y."""
        need_poly(self, poly)
        return Poly(self.p, synthetic(self.p, self.rows, poly.coefficients)[0])

    def divided(self, poly):
        """The curve that is this one when it is multiplied by y - poly, None without one."""
        need_poly(self, poly)
        rest, *rows = synthetic(self.p, self.rows, poly.coefficients)
        return None if rest else Curve(self.p, rows)

    @staticmethod
    def read(text):
        """The curve with this text."""
        items = items_of(text)
        p = read_prime(items, 0)
        read_word(items, 1, ":")
        rows, row = [], []
        for at in range(2, len(items)):
            if is_item(items, at, "/") and row[-1:] != [0]:
                rows.append(row)
                row = []
            else:
                row.append(read_number(items, at, 0, p - 1))
        if row or not rows or not rows[-1]:
            raise BadText(0, len(items))
        return Curve(p, rows)


def need_curve(curve):
    """Nothing, but this must be a curve."""
    if not isinstance(curve, Curve):
        raise BadCurve("curve")


def need_poly(curve, poly):
    """Nothing, but this must be a polynomial that fits to the curve."""
    if not isinstance(poly, Poly):
        raise BadPoly("poly")
    if poly.p != curve.p:
        raise Misfit("p")


def sign_at(row, i):
    """The sign at this index of a row, 0 behind its end."""
    return row[i] if i < len(row) else 0


def rows_from(p, rows):
    """The rows of signs of these rows of integers, without the empty ones at their end."""
    out = [row_from(p, row) for row in rows]
    while out and not out[-1]:
        out.pop()
    return tuple(out)


def turned(rows):
    """Rows for columns, with zeros where rows are short."""
    width = max([len(row) for row in rows])
    return [[sign_at(row, i) for row in rows] for i in range(width)]


def product_rows(p, one, other):
    """The rows of the product of two curves."""
    rows = [() for _ in range(len(one) + len(other) - 1)]
    for j, row in enumerate(one):
        for more, factor in enumerate(other):
            rows[j + more] = sum_of(p, rows[j + more], product_of(p, row, factor))
    return rows


def synthetic(p, rows, row):
    """What division by y less a row leaves, and behind it the rows of the quotient."""
    # From the greatest power on, each row of the quotient times the divisor's goes to the row below.
    out = []
    carried = ()
    for one in rows[::-1]:
        carried = sum_of(p, one, product_of(p, carried, row))
        out.append(carried)
    return out[::-1]
