"""Points 6 and 7 and the interface, allnear/bases.py."""

import itertools
import unittest

from allnear.bases import Base
from allnear.curves import Curve
from allnear.errors import BadBase, BadNumber, TooMany, Twice
from allnear.polys import Poly
from tests.helper import GREAT, NO_INTEGERS, SOME_PRIMES, Case, Numbers, Odd
from tests.second import least_terms, rows_of

PRIMES = [p for p in range(2, 98) if all(p % q for q in range(2, p))]
NO_PRIMES = (*NO_INTEGERS, 0, 1, 4, -5, 91, 99, 101, GREAT)
NO_K = (*NO_INTEGERS, 0, 1, 7, -2, GREAT)
NO_MOST = (*NO_INTEGERS, -1, 21, -20, GREAT)
NO_TIMES = (*NO_INTEGERS, 0, -1, 17, GREAT)


def told(base, points):
    """The base to which all these points are told."""
    for a, b, times in points:
        base = base.passing(a, b, times)
    return base


def some_points(p, many, most, seed):
    """So many points at unlike pairs, with times to a greatest one."""
    numbers = Numbers(seed)
    pairs = numbers.pick([(a, b) for a in range(p) for b in range(p)], many)
    return [(a, b, 1 + numbers.below(most)) for a, b in pairs]


def state(base):
    """All that is told of a base."""
    return (base.p, base.k, base.most, base.passed, base.conditions, base.least.p, base.least.rows)


class Made(Case):
    """What makes a base, and what does not."""

    def test_all_that_can_be(self):
        for p in PRIMES:
            for k in range(2, 7):
                for most in range(21):
                    self.same(state(Base(p, k, most)), (p, k, most, (), 0, p, ((1,),)))
        self.same(state(Base(most=3, k=2, p=5)), (5, 2, 3, (), 0, 5, ((1,),)))

    def test_raises(self):
        for odd in NO_PRIMES:
            self.fails(BadBase("p"), Base, odd, 2, 3)
            self.fails(BadBase("p"), Base, odd, 1, -1)
        for odd in NO_K:
            self.fails(BadNumber("k"), Base, 5, odd, 3)
            self.fails(BadNumber("k"), Base, 2, odd, 21)
        for odd in NO_MOST:
            self.fails(BadNumber("most"), Base, 97, 6, odd)

    def test_equality(self):
        points = [(0, 0, 1), (1, 3, 2), (2, 3, 1)]
        one = told(Base(5, 2, 3), points)
        self.assertTrue(one == told(Base(5, 2, 3), points))
        self.assertFalse(one != told(Base(5, 2, 3), points))
        for other in (told(Base(7, 2, 3), points), told(Base(5, 3, 3), points), told(Base(5, 2, 4), points),
                      told(Base(5, 2, 3), points[:2]), told(Base(5, 2, 3), points[::-1]), Base(5, 2, 3),
                      told(Base(5, 2, 3), [(0, 0, 2), *points[1:]])):
            self.assertFalse(one == other)
            self.assertTrue(one != other)
        for odd in (None, 5, (5, 2, 3), "5", Odd(), Base, one.least):
            self.assertFalse(one == odd)
            self.assertFalse(odd == one)


class Passing(Case):
    """The least curve behind each point that is told."""

    def test_second_way(self):
        for seed, (p, k, most, many, times) in enumerate((
                (2, 2, 1, 4, 3), (2, 3, 4, 4, 4), (2, 6, 20, 4, 5), (3, 2, 0, 5, 3), (3, 2, 3, 9, 2), (3, 5, 2, 6, 3),
                (5, 2, 1, 10, 2), (5, 2, 2, 12, 2), (5, 3, 5, 12, 2), (5, 4, 3, 8, 3), (5, 6, 7, 25, 1),
                (7, 2, 6, 9, 3), (7, 3, 4, 7, 4), (13, 2, 3, 12, 2), (13, 5, 20, 8, 3), (97, 2, 12, 12, 2),
                (97, 4, 5, 9, 3), (97, 6, 20, 6, 3), (53, 2, 16, 10, 2), (97, 2, 1, 20, 1))):
            base, passed = Base(p, k, most), ()
            for point in some_points(p, many, times, seed):
                base, passed = base.passing(*point), passed + (point,)
                self.same(base.passed, passed)
                self.same(base.conditions, sum(one * (one + 1) // 2 for _, _, one in passed))
                self.same(base.least.rows, rows_of(least_terms(p, k, passed, most)))
                self.same((base.p, base.k, base.most, base.least.p), (p, k, most, p))

    def test_least_is_led_and_passes(self):
        for p in SOME_PRIMES:
            for k in range(2, 7):
                for most in (0, 1, 2, 5, 20):
                    points = some_points(p, 4, 3, p + k + most)
                    least = told(Base(p, k, most), points).least
                    self.assertTrue(least == least.led(k))
                    self.assertLessEqual(least.power, most)
                    for a, b, times in points:
                        self.assertGreaterEqual(least.passes(a, b), times)

    def test_one_offer_16_times(self):
        for k in range(2, 7):
            for most in (0, 1, 2, 7, 20):
                base = Base(5, k, most).passing(2, 3, 16)
                self.same(base.conditions, 136)
                self.same(base.least.rows, rows_of(least_terms(5, k, [(2, 3, 16)], most)))
        self.assertTrue(Base(7, 4, 0).passing(3, 5, 16).least == Curve(7, [(Poly(7, [-3, 1]) ** 16).coefficients]))

    def test_any_order(self):
        for p, k, most in ((2, 2, 2), (3, 3, 4), (5, 2, 1), (7, 4, 3), (97, 2, 5)):
            points = some_points(p, 4, 3, p)
            rows = told(Base(p, k, most), points).least.rows
            for order in itertools.permutations(points):
                self.same(told(Base(p, k, most), order).least.rows, rows)

    def test_more_never_lessens(self):
        for p, k, most in ((3, 2, 4), (5, 2, 20), (13, 3, 0), (97, 5, 6)):
            base, ahead = Base(p, k, most), (0, 0)
            for point in some_points(p, 9, 3, most):
                base = base.passing(*point)
                i, j = base.least.leading(k)
                self.assertGreaterEqual((i + (k - 1) * j, j), ahead)
                ahead = (i + (k - 1) * j, j)

    def test_a_curve_that_passes_already(self):
        base = Base(5, 2, 1).passing(0, 0, 1).passing(1, 1, 1)
        for sign in (2, 3, 4):
            self.same(base.passing(sign, sign, 1).least.rows, ((0, 4), (1,)))


class Bounds(Case):
    """150 conditions, pairs told twice, wrong values, and that nothing changes."""

    def test_150_conditions(self):
        for most in (0, 3, 20):
            base = told(Base(7, 2, most), [(0, 0, 16), (1, 1, 4), (2, 2, 2), (3, 3, 1)])
            self.same(base.conditions, 150)
            for times in (1, 2, 16):
                self.fails(TooMany("conditions", 150), base.passing, 4, 4, times)
            less = told(Base(7, 2, most), [(0, 0, 16), (1, 1, 4), (2, 2, 2)])
            self.fails(TooMany("conditions", 150), less.passing, 3, 3, 2)
            self.same(less.passing(3, 3, 1).conditions, 150)

    def test_150_points(self):
        points = [(at % 97, at // 97, 1) for at in range(150)]
        base = told(Base(97, 2, 1), points)
        self.same((base.conditions, base.least.rows), (150, rows_of(least_terms(97, 2, points, 1))))
        self.fails(TooMany("conditions", 150), base.passing, 96, 96, 1)

    def test_raises_in_order(self):
        base = Base(5, 2, 3).passing(1, 2, 16)
        for odd in (*NO_INTEGERS, -1, 5, GREAT):
            self.fails(BadNumber("a"), base.passing, odd, 0, 1)
            self.fails(BadNumber("a"), base.passing, odd, odd, 0)
            self.fails(BadNumber("b"), base.passing, 1, odd, 1)
            self.fails(BadNumber("b"), base.passing, 0, odd, 17)
        for odd in NO_TIMES:
            self.fails(BadNumber("times"), base.passing, 0, 0, odd)
            self.fails(BadNumber("times"), base.passing, 1, 2, odd)
        for times in (1, 4, 5, 16):
            self.fails(Twice((1, 2)), base.passing, 1, 2, times)
            self.fails(Twice((1, 2)), base.passing, times=times, b=2, a=1)
        self.fails(TooMany("conditions", 150), base.passing, 2, 1, 5)
        self.same(base.passing(2, 1, 4).passed, ((1, 2, 16), (2, 1, 4)))
        self.same(base.passing(1, 1, 1).passing(2, 2, 1).conditions, 138)

    def test_nothing_changes(self):
        base = Base(5, 3, 4).passing(0, 1, 5)
        ahead, same = state(base), Base(5, 3, 4).passing(0, 1, 5)
        one, other = base.passing(1, 1, 2), base.passing(1, 2, 2)
        for wrong in ((0, 1, 1), (1, 5, 1), (1, 1, 16), (None, 0, 1), (2, 2, 0)):
            with self.assertRaises(ValueError):
                base.passing(*wrong)
        self.same(state(base), ahead)
        self.assertTrue(base == same)
        self.same(state(base.passing(1, 1, 2)), state(one))
        self.same(state(base.passing(1, 2, 2)), state(other))
        self.assertFalse(one == other)


if __name__ == "__main__":
    unittest.main()
