"""Point 4 and the interface, allnear/polys.py, but for texts: sums, quotients, roots, points."""

import unittest

from allnear.errors import BadNumber, BadPoly, ByZero, Misfit, Twice
from allnear.polys import Poly, inverse, roots, shared, through
from tests.helper import GREAT, NO_INTEGERS, NO_LISTS, SOME_PRIMES, Case, Numbers, Odd

NO_PRIMES = (*NO_INTEGERS, 0, 1, 4, -7, 91, 100, 101, GREAT)
NO_POLYS = (None, True, 0, 1, "7 : 1", "", [1], (1,), {}, Odd(), Poly, 1.5)


def plain(numbers, p):
    """Integers modulo p, without zeros behind: the second way writes them down itself."""
    signs = [((number % p) + p) % p for number in numbers]
    while signs and not signs[-1]:
        signs.pop()
    return tuple(signs)


def value_of(numbers, x, p):
    """The value of plain integers as coefficients, power by power."""
    return sum(number * x ** power for power, number in enumerate(numbers)) % p


def times(one, other):
    """The product of integers as coefficients, in the plain sense."""
    table = {}
    for i, a in enumerate(one):
        for j, b in enumerate(other):
            table[i + j] = table.get(i + j, 0) + a * b
    return [table[power] for power in sorted(table)]


def put(outer, inner):
    """The coefficients of the outer one with the inner one put for x, in the plain sense."""
    total, power = [0] * (1 + len(outer) * (len(inner) + 1)), [1]
    for number in outer:
        for at, one in enumerate(power):
            total[at] += number * one
        power = times(power, inner) or [0]
    return total


def pairs_of_rows(p):
    """Many pairs of rows of integers: short and long, zero, below 0, any size, zeros behind."""
    numbers = Numbers(p)
    rows = [[], [0], [0, p], [1], [-1], [GREAT], [0, 1], [p - 1, 0, 0], [-GREAT, GREAT + 1, 0, 3, p, -p]]
    for size in (1, 2, 3, 5, 9, 30):
        rows.append(numbers.some(size, p))
        rows.append([number - GREAT for number in numbers.some(size, 2 * GREAT)])
    return [(one, other) for one in rows for other in rows]


class Made(Case):
    """What makes a polynomial, and what does not."""

    def test_coefficients(self):
        for p, told, expected in ((7, [3, 0, 1], (3, 0, 1)), (7, [-1, 8], (6, 1)), (7, [2, 0, 14], (2,)),
                                  (2, [2, 4, 6], ()), (5, (), ()), (5, [0], ()), (97, [GREAT, -GREAT], None),
                                  (3, [0, 0, 0, 5, 0], (0, 0, 0, 2)), (13, [10 ** 5000], None)):
            poly = Poly(p, told)
            self.same(poly.coefficients, plain(told, p) if expected is None else expected)
            self.same((poly.p, poly.degree), (p, len(poly.coefficients) - 1))

    def test_defaults_and_names(self):
        self.same(Poly(5).coefficients, ())
        self.same(Poly(5).degree, -1)
        self.same(Poly(p=5, coefficients=[6]).coefficients, (1,))

    def test_no_prime(self):
        for p in NO_PRIMES:
            self.fails(BadPoly("p"), Poly, p, [1])
            self.fails(BadPoly("p"), Poly, p, "no list")

    def test_no_coefficients(self):
        for told in NO_LISTS:
            self.fails(BadPoly("coefficients"), Poly, 7, told)
        for odd in NO_INTEGERS:
            self.fails(BadPoly("coefficients"), Poly, 7, [odd])
            self.fails(BadPoly("coefficients"), Poly, 7, (1, odd, 2))

    def test_copied(self):
        told = [1, 9, 0]
        poly = Poly(7, told)
        told[0] = 5
        told.append(3)
        self.same(poly.coefficients, (1, 2))
        self.same(told, [5, 9, 0, 3])

    def test_equal(self):
        self.assertTrue(Poly(7, [2, 0, 14]) == Poly(7, (9,)))
        self.assertFalse(Poly(7, [2, 0, 14]) != Poly(7, (9,)))
        for other in (Poly(7, [3]), Poly(5, [2]), Poly(7, [2, 1]), Poly(7), Poly(7, [0, 2])):
            self.assertFalse(Poly(7, [2]) == other)
            self.assertTrue(Poly(7, [2]) != other)
        self.assertFalse(Poly(5) == Poly(7))
        for other in NO_POLYS + ((7, (2,)), "7 : 2"):
            self.assertIs(Poly(7, [2]) == other, False)
            self.assertIs(other == Poly(7, [2]), False)


class Values(Case):
    """poly(x)."""

    def test_values(self):
        numbers = Numbers(1)
        for p in SOME_PRIMES:
            for size in (0, 1, 2, 3, 8, 40):
                told = numbers.some(size, p)
                for x in (0, 1, -1, 2, p - 1, p, -p, GREAT, 1 - GREAT):
                    self.gives(Poly(p, told), value_of(told, x % p, p), x)

    def test_no_integer(self):
        for x in NO_INTEGERS + (Poly(7, [1]),):
            self.fails(BadNumber("x"), Poly(7, [1, 2]), x)
            self.fails(BadNumber("x"), Poly(7), x)


class Sums(Case):
    """Sums, differences, products, quotients and rests by a second way."""

    def test_sums_and_products(self):
        for p in SOME_PRIMES:
            for one, other in pairs_of_rows(p):
                f, g = Poly(p, one), Poly(p, other)
                size = max(len(one), len(other))
                wide = [list(row) + [0] * (size - len(row)) for row in (one, other)]
                self.same((f + g).coefficients, plain([a + b for a, b in zip(*wide)], p))
                self.same((f - g).coefficients, plain([a - b for a, b in zip(*wide)], p))
                self.same((f * g).coefficients, plain(times(one, other), p))
                self.same((-f).coefficients, plain([-a for a in one], p))
                self.same((f + g).p, p)

    def test_quotients_and_rests(self):
        for p in SOME_PRIMES:
            for one, other in pairs_of_rows(p):
                f, g = Poly(p, one), Poly(p, other)
                if g.degree < 0:
                    continue
                quotient, rest = f // g, f % g
                self.assertLess(rest.degree, g.degree)
                back = times(quotient.coefficients, g.coefficients)
                back = back + [0] * (len(rest.coefficients) - len(back))
                added = [a + (rest.coefficients[at] if at <= rest.degree else 0) for at, a in enumerate(back)]
                self.same(plain(added, p), f.coefficients)
                if f.degree < g.degree:
                    self.same((quotient.coefficients, rest), ((), f))

    def test_by_a_number(self):
        f = Poly(7, [1, 2, 3, 4])
        for sign in range(1, 7):
            self.same((f // Poly(7, [sign]) * Poly(7, [sign])).coefficients, (1, 2, 3, 4))
            self.same((f % Poly(7, [sign])).coefficients, ())

    def test_great_degrees(self):
        numbers = Numbers(5)
        one, other = numbers.some(200, 97) + [1], numbers.some(199, 97) + [96]
        f, g = Poly(97, one), Poly(97, other)
        self.same((f * g).coefficients, plain(times(one, other), 97))
        self.same((f * g // g, f * g % g), (f, Poly(97)))
        self.same((Poly(97, [96] * 201) ** 2).coefficients, plain(times([96] * 201, [96] * 201), 97))

    def test_powers(self):
        numbers = Numbers(6)
        for p in SOME_PRIMES:
            for told in ([], [0], [1], [p - 1], [0, 1], [1, 1], numbers.some(4, p)):
                expected = [1]
                for power in range(51):
                    if power < 12 or power == 50:
                        self.same((Poly(p, told) ** power).coefficients, plain(expected, p))
                    expected = [number % p for number in times(expected, told)] or [0]
        self.same((Poly(7) ** 0).coefficients, (1,))
        self.same((Poly(7) ** 50).coefficients, ())
        self.same((Poly(2, [1, 1]) ** 32).coefficients, (1,) + (0,) * 31 + (1,))

    def test_what_raises(self):
        for poly in (Poly(7, [1, 2]), Poly(7)):
            for call in (lambda other: poly + other, lambda other: poly - other, lambda other: poly * other,
                         lambda other: poly // other, lambda other: poly % other, poly.at):
                for other in NO_POLYS:
                    self.fails(BadPoly("other"), call, other)
                for other in (Poly(5, [1]), Poly(2), Poly(97, [1, 2, 3])):
                    self.fails(Misfit("p"), call, other)
            self.fails(ByZero(), lambda: poly // Poly(7, [7]))
            self.fails(ByZero(), lambda: poly % Poly(7))
            self.fails(Misfit("p"), lambda: poly // Poly(5))
            self.fails(Misfit("p"), lambda: poly % Poly(5))

    def test_nothing_changes(self):
        f, g = Poly(7, [1, 2, 3]), Poly(7, [4, 5])
        for _ in (f + g, f - g, f * g, f // g, f % g, -f, f ** 5, f.at(g), f.moved(1, 2), shared(f, g), roots(f)):
            self.same((f.coefficients, f.degree, g.coefficients, g.degree), ((1, 2, 3), 2, (4, 5), 1))


class Moved(Case):
    """Another polynomial put for x."""

    def test_moved(self):
        numbers = Numbers(7)
        for p in SOME_PRIMES:
            for size in (0, 1, 2, 5, 12):
                told = numbers.some(size, p)
                for shift in (0, 1, -1, p, p - 1, 3, GREAT):
                    self.same(Poly(p, told).moved(shift).coefficients, plain(put(told, [shift, 1]), p))
                    for stretch in (0, 1, -1, 2, p, GREAT + 1):
                        expected = plain(put(told, [shift, stretch]), p)
                        self.same(Poly(p, told).moved(shift, stretch).coefficients, expected)
                        self.same(Poly(p, told).moved(stretch=stretch, shift=shift).coefficients, expected)

    def test_moved_raises(self):
        for odd in NO_INTEGERS:
            self.fails(BadNumber("shift"), Poly(7, [1, 2]).moved, odd)
            self.fails(BadNumber("shift"), Poly(7, [1, 2]).moved, odd, odd)
            self.fails(BadNumber("stretch"), Poly(7, [1, 2]).moved, 1, odd)
            self.fails(BadNumber("stretch"), Poly(7).moved, 0, odd)

    def test_at(self):
        numbers = Numbers(8)
        for p in SOME_PRIMES:
            for size in (0, 1, 2, 5, 9):
                for inner in ([], [3], [0, 1], numbers.some(3, p), numbers.some(6, p)):
                    told = numbers.some(size, p)
                    got = Poly(p, told).at(Poly(p, inner))
                    self.same((got.p, got.coefficients), (p, plain(put(told, inner), p)))

    def test_at_values(self):
        numbers = Numbers(9)
        f, g = Poly(97, numbers.some(20, 97)), Poly(97, numbers.some(12, 97))
        for x in range(97):
            self.same(f.at(g)(x), f(g(x)))


class Inverses(Case):
    """The inverse of an integer modulo p."""

    def test_inverses(self):
        for p in (2, 3, 5, 7, 41, 89, 97):
            for number in (*range(1 - 2 * p, 2 * p), GREAT + 1, -GREAT - 1):
                if number % p:
                    told = inverse(p, number)
                    self.assertTrue(type(told) is int and 0 < told < p and told * number % p == 1, (p, number))
                else:
                    self.fails(ByZero(), inverse, p, number)

    def test_raises(self):
        for p in NO_PRIMES:
            self.fails(BadNumber("p"), inverse, p, 1)
            self.fails(BadNumber("p"), inverse, p, "1")
        for odd in NO_INTEGERS:
            self.fails(BadNumber("sign"), inverse, 7, odd)
            self.fails(BadNumber("sign"), inverse, sign=odd, p=2)


class Roots(Case):
    """The signs at which a polynomial is 0."""

    def test_roots(self):
        numbers = Numbers(10)
        for p in SOME_PRIMES:
            for told in ([], [1], [0, 1], [1, 0, 1], [0] * p + [1], [0, -1] + [0] * (p - 2) + [1], numbers.some(6, p)):
                self.gives(roots, tuple(x for x in range(p) if not value_of(told, x, p)), Poly(p, told))
        self.gives(roots, tuple(range(97)), Poly(97))
        self.gives(roots, (4, 20), Poly(97, [80, -24, 1]))

    def test_raises(self):
        for odd in NO_POLYS:
            self.fails(BadPoly("poly"), roots, odd)


class Shared(Case):
    """The shared polynomial: each one that divides both divides it."""

    def test_shared(self):
        numbers = Numbers(11)
        for p in SOME_PRIMES:
            for size in (1, 2, 4):
                common = Poly(p, numbers.some(size, p) + [1])
                f, g = common * Poly(p, numbers.some(3, p) + [1]), common * Poly(p, numbers.some(4, p))
                told = shared(f, g)
                self.same(told.coefficients[-1], 1)
                self.same((f % told, g % told, told % common), (Poly(p), Poly(p), Poly(p)))
                self.same(told, shared(g, f))

    def test_greatest_of_all_divisors(self):
        for told in range(27 * 27):
            signs = [told // 3 ** at % 3 for at in range(6)]
            f, g = Poly(3, signs[:3]), Poly(3, signs[3:])
            divisors = [d for d in MONIC_BELOW_3 if f % d == Poly(3) and g % d == Poly(3)]
            expected = max(divisors, key=lambda d: d.degree) if f.degree + g.degree > -2 else Poly(3)
            self.same(shared(f, g), expected)

    def test_zero(self):
        f = Poly(7, [2, 4, 3])
        for told in (shared(f, Poly(7)), shared(Poly(7), f), shared(f, f)):
            self.same(told.coefficients, (3, 6, 1))
        self.same(shared(Poly(7), Poly(7)).coefficients, ())
        self.same(shared(f, Poly(7, [5])).coefficients, (1,))

    def test_raises(self):
        f = Poly(7, [1, 1])
        for odd in NO_POLYS:
            self.fails(BadPoly("one"), shared, odd, f)
            self.fails(BadPoly("one"), shared, odd, odd)
            self.fails(BadPoly("other"), shared, f, odd)
        self.fails(Misfit("p"), shared, f, Poly(5, [1, 1]))
        self.fails(Misfit("p"), shared, Poly(7), Poly(5))


MONIC_BELOW_3 = [Poly(3, [*low, 1]) for low in
                 ([], [0], [1], [2], *[[a, b] for a in range(3) for b in range(3)])]


class Through(Case):
    """The polynomial through points."""

    def test_through(self):
        numbers = Numbers(12)
        for p in SOME_PRIMES:
            for many in (0, 1, 2, 3, p // 2, p):
                places = numbers.pick(range(p), min(many, p))
                points = [(a, numbers.below(p)) for a in places]
                poly = through(p, points)
                self.same([poly(a) for a in places], [b for _, b in points])
                self.assertLess(poly.degree, max(1, len(points)))
                self.same(poly.p, p)
                self.same(through(p, tuple(list(point) for point in points)), poly)

    def test_least_degree(self):
        poly = Poly(13, [1, 2, 3])
        self.same(through(13, [(a, poly(a)) for a in range(13)]), poly)
        self.same(through(13, [(a, 5) for a in range(6)]), Poly(13, [5]))
        self.same(through(13, [(a, 0) for a in range(6)]), Poly(13))
        self.same(through(13, []), Poly(13))
        self.same(through(13, ()).coefficients, ())

    def test_raises(self):
        for p in NO_PRIMES:
            self.fails(BadNumber("p"), through, p, [])
            self.fails(BadNumber("p"), through, p, "x")
        for odd in NO_LISTS:
            self.fails(BadPoly("points"), through, 7, odd)
            self.fails(BadPoly("points"), through, 7, [odd])
            self.fails(BadPoly("points"), through, 7, [(1, 2), odd])
        for odd in NO_INTEGERS + (-1, 7, GREAT):
            self.fails(BadPoly("points"), through, 7, [(odd, 1)])
            self.fails(BadPoly("points"), through, 7, [[1, odd]])
        for pair in ((), (1,), (1, 2, 3)):
            self.fails(BadPoly("points"), through, 7, [(0, 0), pair])

    def test_twice(self):
        self.fails(Twice(1), through, 7, [(1, 2), (1, 2)])
        self.fails(Twice(3), through, 7, [(1, 2), [3, 0], (2, 3), (3, 4), (1, 5)])
        self.fails(Twice(0), through, 7, ([0, 1], [0, 2], [1, 1], [1, 2]))
        self.fails(BadPoly("points"), through, 7, [(1, 2), (1, 3), (1, 7)])

    def test_nothing_is_changed(self):
        points = [[1, 2], (3, 4)]
        through(7, points)
        self.same(points, [[1, 2], (3, 4)])


class Listed(Case):
    """The interface: each method stands in its own class."""

    def test_methods(self):
        for name in ("__call__", "__add__", "__sub__", "__mul__", "__floordiv__", "__mod__", "__neg__", "__pow__",
                     "__eq__", "__str__", "moved", "at", "read"):
            self.assertIn(name, vars(Poly))


if __name__ == "__main__":
    unittest.main()
