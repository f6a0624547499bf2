"""Point 6 and the interface, allnear/curves.py, but for texts."""

import unittest
from math import comb

from allnear.curves import Curve
from allnear.errors import BadCurve, BadNumber, BadPoly, Misfit
from allnear.polys import Poly
from allnear.terms import span_of, terms_to
from tests.helper import GREAT, NO_INTEGERS, NO_LISTS, SOME_PRIMES, Case, Numbers, Odd

NO_PRIMES = (*NO_INTEGERS, 0, 1, 4, -5, 91, 101, GREAT)
NO_K = (*NO_INTEGERS, 0, 1, 7, -2, GREAT)
NO_POLYS = (None, True, 0, "5 : 1", [1], (1, 2), {}, Odd(), Poly)
NO_CURVES = (None, True, 0, "5 : 1 /", [[1]], ((1,),), {}, Odd(), Curve, Poly(5, [1]))


def table_of(p, rows):
    """The terms of rows of integers that are not 0 modulo p, with their coefficients."""
    return {(i, j): number % p for j, row in enumerate(rows) for i, number in enumerate(row) if number % p}


def table(curve):
    """The terms of a curve, and that its rows are as they must be."""
    assert type(curve.rows) is tuple and all(type(row) is tuple for row in curve.rows)
    assert all(row == () or row[-1] for row in curve.rows) and curve.rows[-1]
    assert all(type(sign) is int and 0 <= sign < curve.p for row in curve.rows for sign in row)
    assert curve.power == len(curve.rows) - 1
    return table_of(curve.p, curve.rows)


def put(p, terms, a, b):
    """The terms around a, b by a second way: each power of a sum written out."""
    out = {}
    for (i, j), sign in terms.items():
        for x in range(i + 1):
            for y in range(j + 1):
                more = sign * comb(i, x) * a ** (i - x) * comb(j, y) * b ** (j - y)
                out[x, y] = (out.get((x, y), 0) + more) % p
    return {term: sign for term, sign in out.items() if sign}


def times(p, one, other):
    """The terms of a product."""
    out = {}
    for (i, j), a in one.items():
        for (x, y), b in other.items():
            out[i + x, j + y] = (out.get((i + x, j + y), 0) + a * b) % p
    return {term: sign for term, sign in out.items() if sign}


def some_curves(p):
    """Some curves, small and greater ones, also with empty rows between."""
    numbers = Numbers(p)
    rows = [[[1]], [[], [1]], [[0, 0, 1]], [[], [], [], [0, p - 1]], [[1], [], [0, 1]], [[0, 1], [1]],
            [[-1, 1], [1, 1]]]
    for sizes in ((1, 2), (3, 2, 1), (0, 4), (6, 5, 4, 3, 2), (2, 0, 0, 9), (5, 5, 5)):
        rows.append([numbers.some(size, p) for size in sizes[:-1]] + [numbers.some(sizes[-1], p) + [1]])
    return [Curve(p, told) for told in rows]


class Made(Case):
    """What makes a curve, and what does not."""

    def test_rows(self):
        for p, rows, told in ((5, [[2], [0, 3, 5], [0]], ((2,), (0, 3))), (5, ([], [0, 4], (1,)), ((), (0, 4), (1,))),
                              (7, [[-1, 8, 0, 0], [], [0, 7], []], ((6, 1),)), (2, [[4], [2], [3]], ((), (), (1,))),
                              (97, [[-GREAT, GREAT]], None), (3, [[0, 0], [0], [0, 0, 4, 0], [0], [], [3]], None),
                              (13, [[10 ** 5000]], None), (5, [[1]], ((1,),)), (2, [[], [1, 1]], ((), (1, 1)))):
            curve = Curve(p, rows)
            self.same(table(curve), table_of(p, rows))
            if told is not None:
                self.same(curve.rows, told)
            self.same((curve.p, curve.power), (p, len(curve.rows) - 1))

    def test_no_prime(self):
        for p in NO_PRIMES:
            self.fails(BadCurve("p"), Curve, p, [[1]])
            self.fails(BadCurve("p"), Curve, p, "x")

    def test_no_rows(self):
        for odd in NO_LISTS:
            self.fails(BadCurve("rows"), Curve, 5, odd)
            self.fails(BadCurve("rows"), Curve, 5, [odd])
            self.fails(BadCurve("rows"), Curve, 5, [[1], odd])
        for odd in NO_INTEGERS:
            self.fails(BadCurve("rows"), Curve, 5, [[1], [2, odd]])
            self.fails(BadCurve("rows"), Curve, 5, ((odd,),))
        for rows in ([], (), [[]], [[], []], [[0]], [[5, -5], [0], [], [10 * GREAT]]):
            self.fails(BadCurve("rows"), Curve, 5, rows)

    def test_copied(self):
        rows = [[1, 6], [0]]
        curve = Curve(5, rows)
        self.same(rows, [[1, 6], [0]])
        rows[0].append(3)
        rows.append([1])
        self.same(curve.rows, ((1, 1),))

    def test_equal(self):
        curve = Curve(5, [[2], [0, 3]])
        self.assertTrue(curve == Curve(p=5, rows=((7, 0), (5, -2), ())))
        self.assertFalse(curve != Curve(5, [[2], [0, 3]]))
        for other in (Curve(7, [[2], [0, 3]]), Curve(5, [[2], [0, 2]]), Curve(5, [[2]]), Curve(5, [[2], [0, 3], [1]])):
            self.assertFalse(curve == other)
            self.assertTrue(curve != other)
        for other in (None, True, curve.rows, str(curve), Odd(), Poly(5, [2])):
            self.assertIs(curve == other, False)
            self.assertIs(other == curve, False)

    def test_listed(self):
        for name in ("coefficient", "span", "leading", "led", "passes", "around", "along", "divided", "read",
                     "__mul__", "__eq__", "__str__"):
            self.assertIn(name, vars(Curve))


class Spans(Case):
    """Coefficients, spans and leading terms."""

    def test_coefficients(self):
        for p in SOME_PRIMES:
            for curve in some_curves(p):
                terms = table(curve)
                for i in range(12):
                    for j in range(8):
                        self.gives(curve.coefficient, terms.get((i, j), 0), i, j)
                self.gives(curve.coefficient, 0, GREAT, 0)
                self.gives(curve.coefficient, 0, 0, GREAT)
                self.gives(curve.coefficient, curve.rows[-1][-1], len(curve.rows[-1]) - 1, curve.power)

    def test_leading(self):
        for p in SOME_PRIMES:
            for curve in some_curves(p):
                for k in range(2, 7):
                    terms = table(curve)
                    last = max(terms, key=lambda term: (term[0] + (k - 1) * term[1], term[1]))
                    self.gives(curve.leading, last, k)
                    self.gives(curve.span, max(span_of(k, i, j) for i, j in terms), k)
                    ascending = [term for term in terms_to(k, curve.span(k)) if term in terms]
                    self.same(ascending[-1], last)

    def test_equal_spans(self):
        curve = Curve(5, [[0, 0, 0, 0, 1], [0, 0, 2], [3]])
        self.same([curve.leading(k) for k in range(2, 7)], [(4, 0), (0, 2), (0, 2), (0, 2), (0, 2)])
        self.same([curve.span(k) for k in range(2, 7)], [4, 4, 6, 8, 10])
        self.same(Curve(7, [[0, 0, 1], [0, 1], [1]]).leading(2), (0, 2))

    def test_led(self):
        for p in SOME_PRIMES:
            for curve in some_curves(p):
                for k in range(2, 7):
                    led = curve.led(k)
                    factor = curve.coefficient(*curve.leading(k))
                    self.same((led.p, led.leading(k), led.coefficient(*led.leading(k))), (p, curve.leading(k), 1))
                    self.same({term: sign * factor % p for term, sign in table(led).items()}, table(curve))
                    self.assertTrue(led.led(k) == led)

    def test_raises(self):
        curve = Curve(5, [[2], [0, 3]])
        for odd in (*NO_INTEGERS, -1, -GREAT):
            self.fails(BadNumber("i"), curve.coefficient, odd, 0)
            self.fails(BadNumber("i"), curve.coefficient, odd, odd)
            self.fails(BadNumber("j"), curve.coefficient, 0, odd)
            self.fails(BadNumber("j"), curve.coefficient, j=odd, i=GREAT)
        for odd in NO_K:
            for call in (curve.span, curve.leading, curve.led):
                self.fails(BadNumber("k"), call, odd)


class Around(Case):
    """Around two integers, and how often a curve passes."""

    def test_around(self):
        for p in SOME_PRIMES:
            for curve in some_curves(p):
                for a, b in ((0, 0), (1, 0), (0, 1), (1, 1), (p - 1, 2), (-1, p), (3, -2), (GREAT, 1 - GREAT)):
                    told, expected = curve.around(a, b), put(p, table(curve), a % p, b % p)
                    self.same((told.p, table(told)), (p, expected))
                    self.gives(curve.passes, min(i + j for i, j in expected), a, b)
                    self.assertTrue(told.around(-a, -b) == curve)

    def test_passes(self):
        for p in (5, 97):
            x, y = Curve(p, [[-2, 1]]), Curve(p, [[-3, -4], [1]])
            many = x
            for turn in range(1, 6):
                self.gives(many.passes, turn, 2, 1)
                self.gives(many.passes, turn, 2 + p, 0)
                many = many * x
            for turn in range(1, 6):
                self.gives(many.passes, turn + 5, 2, 11)
                self.gives(many.passes, turn - 1, 1, 7)
                self.gives(many.passes, 0, 1, 8)
                many = many * y

    def test_great(self):
        numbers = Numbers(30)
        curve = Curve(97, [numbers.some(69, 97) + [1] for _ in range(21)])
        self.same(table(curve.around(3, 96)), put(97, table(curve), 3, 96))
        self.assertTrue(curve.around(3, 96).around(-3, 1) == curve)

    def test_raises(self):
        curve = Curve(5, [[2], [0, 3]])
        for odd in NO_INTEGERS:
            for call in (curve.around, curve.passes):
                self.fails(BadNumber("a"), call, odd, 0)
                self.fails(BadNumber("a"), call, odd, odd)
                self.fails(BadNumber("b"), call, 0, odd)
                self.fails(BadNumber("b"), call, b=odd, a=GREAT)


class Along(Case):
    """Along a polynomial, and divided by it."""

    def polys(self, p):
        numbers = Numbers(31)
        return [Poly(p, told) for told in ([], [1], [0, 1], [p - 1, 1], numbers.some(3, p), numbers.some(7, p))]

    def test_along(self):
        for p in SOME_PRIMES:
            for curve in some_curves(p):
                for poly in self.polys(p):
                    told, powers, expected = curve.along(poly), Poly(p, [1]), Poly(p)
                    for row in curve.rows:
                        expected, powers = expected + Poly(p, row) * powers, powers * poly
                    self.same(told, expected)
                    for x in range(min(p, 7)):
                        self.same(told(x), sum(c * x ** i * poly(x) ** j for (i, j), c in table(curve).items()) % p)

    def test_divided(self):
        for p in SOME_PRIMES:
            for curve in some_curves(p):
                for poly in self.polys(p):
                    line = Curve(p, [(-poly).coefficients, [1]])
                    self.same((curve * line).divided(poly), curve)
                    told = curve.divided(poly)
                    if curve.along(poly).degree < 0:
                        self.same(told * line, curve)
                        self.same(told.power, curve.power - 1)
                    else:
                        self.same(told, None)

    def test_one_row(self):
        self.assertIsNone(Curve(5, [[1, 2]]).divided(Poly(5)))
        self.assertIsNone(Curve(5, [[1, 2]]).divided(Poly(5, [1, 1])))
        self.same(Curve(5, [[], [2, 1]]).divided(Poly(5)).rows, ((2, 1),))

    def test_raises(self):
        curve = Curve(5, [[2], [0, 3]])
        for call in (curve.along, curve.divided):
            for odd in NO_POLYS + (curve,):
                self.fails(BadPoly("poly"), call, odd)
            self.fails(Misfit("p"), call, Poly(7, [1]))
            self.fails(Misfit("p"), call, Poly(2))


class Products(Case):
    """Curves multiplied."""

    def test_products(self):
        for p in SOME_PRIMES:
            for one in some_curves(p):
                for other in some_curves(p):
                    told = one * other
                    self.same((told.p, table(told)), (p, times(p, table(one), table(other))))
                    for k in (2, 5):
                        self.same(told.span(k), one.span(k) + other.span(k))
                    self.same(told.passes(1, 1), one.passes(1, 1) + other.passes(1, 1))

    def test_great(self):
        numbers = Numbers(32)
        one, other = (Curve(97, [[96] * 35 + numbers.some(5, 97) + [1] for _ in range(8)]) for _ in range(2))
        self.same(table(one * other), times(97, table(one), table(other)))

    def test_raises(self):
        curve = Curve(5, [[2], [0, 3]])
        for odd in NO_CURVES:
            self.fails(BadCurve("other"), lambda: curve * odd)
        self.fails(Misfit("p"), lambda: curve * Curve(7, [[1]]))

    def test_nothing_changes(self):
        curve, other = Curve(5, [[2], [0, 3]]), Curve(5, [[1], [1]])
        for _ in (curve * other, curve.led(2), curve.around(1, 2), curve.along(Poly(5, [1])),
                  curve.divided(Poly(5, [1])), curve.passes(1, 2), str(curve)):
            self.same((curve.rows, curve.power, other.rows), (((2,), (0, 3)), 1, ((1,), (1,))))


if __name__ == "__main__":
    unittest.main()
