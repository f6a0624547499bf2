"""Point 12 and the interface, allnear/roots.py."""

import itertools
import unittest

from allnear.errors import BadNumber, BadRows
from allnear.roots import whole_roots
from tests.helper import GREAT, NO_INTEGERS, NO_LISTS, Case, Numbers


def value(row, x):
    """The value, power by power."""
    return sum(number * x ** power for power, number in enumerate(row))


def product(*rows):
    """The product of whole polynomials."""
    out = [1]
    for row in rows:
        made = [0] * (len(out) + len(row) - 1)
        for i, one in enumerate(out):
            for j, two in enumerate(row):
                made[i + j] += one * two
        out = made
    return out


def with_roots(roots, *others):
    """The product of x less each of the roots, and of these others."""
    return product(*[[-root, 1] for root in roots], *others)


class Near(Case):
    """Against trial of all integers."""

    def by_trial(self, row, low, high):
        kept = list(row)
        self.gives(whole_roots, tuple(x for x in range(low, high + 1) if value(row, x) == 0), row, low, high)
        self.same(row, kept)

    def test_all_small_ones(self):
        for size in (1, 2, 3, 4):
            for row in itertools.product(range(-2, 3), repeat=size):
                if any(row):
                    self.by_trial(list(row), -4, 4)

    def test_drawn_ones(self):
        numbers = Numbers(70)
        for size in range(1, 13):
            for bound in (1, 3, 20, 10 ** 6):
                row = [numbers.below(2 * bound + 1) - bound for _ in range(size)]
                self.by_trial(row if any(row) else [1], -60, 60)

    def test_drawn_roots(self):
        numbers = Numbers(71)
        for many in range(1, 12):
            for _ in range(12):
                roots = [numbers.below(41) - 20 for _ in range(many)]
                row = with_roots(roots, [numbers.below(9) - 12])
                self.by_trial(row, -25, 25)
                self.by_trial(row, min(roots), max(roots))
                self.by_trial(row, min(roots) + 1, max(roots) + 1)
                self.by_trial(row, roots[0], roots[0])

    def test_factors_without_roots(self):
        for other in ([1, 0, 1], [-2, 0, 1], [1, 2], [-3, 2], [1, 1, 1], [-2, 0, 0, 1], [-1, 3, 5, 7], [5]):
            for roots in ((), (0,), (0, 0, 1), (-3, 3), (7, 7, 7), (1, 2, 3, 4), (-5, -5, 0, 5, 5)):
                self.by_trial(with_roots(roots, other), -9, 9)
                self.by_trial(with_roots(roots, other, other), -9, 9)
                self.by_trial([0, 0] + with_roots(roots, other), -9, 9)

    def test_all_bounds(self):
        for row in (with_roots((-2, 0, 1, 1)), with_roots((-1, 2), [1, 3]), [6, -5, 1], [0, -1, 0, 1], [0, 1], [3]):
            for low in range(-4, 5):
                for high in range(low, 5):
                    self.by_trial(row, low, high)

    def test_twelve_side_by_side(self):
        self.by_trial(with_roots(range(-5, 6)), -99, 99)
        self.by_trial(with_roots([4] * 11), -99, 99)
        self.by_trial(with_roots([4] * 5 + [5] * 6), -99, 99)
        self.by_trial([0] * 11 + [3], -9, 9)

    def test_zeros_behind(self):
        for row in ([-3, 1, 0, 0], [0, 1, 0], [5, 0, 0], [6, -5, 1] + [0] * 9, [1] + [0] * 11):
            self.by_trial(row, -9, 9)


class Far(Case):
    """Roots and bounds that no trial reaches."""

    def found(self, roots, *others, low=None, high=None):
        row = with_roots(roots, *others)
        low, high = min(roots) if low is None else low, max(roots) if high is None else high
        told = tuple(sorted({root for root in roots if low <= root <= high}))
        self.gives(whole_roots, told, row, low, high)
        self.gives(whole_roots, told, tuple(row), low, high)

    def test_far_roots(self):
        for far in (10 ** 18, GREAT, 10 ** 40 - 3, 10 ** 100):
            for roots in ((far,), (-far, far), (far, far + 1, far + 2), (far, far), (-far, 0, 1, far),
                          (far, far + 1, -far), (far + 7,) * 11, tuple(far + turn for turn in range(11)),
                          tuple(far * (turn - 5) for turn in range(11))):
                self.found(roots)
                self.found(roots, low=-far * far, high=far * far)
                self.found(roots, low=far, high=far)
                self.found(roots, low=far + 1, high=2 * far)
                if len(roots) < 9:
                    self.found(roots, [1, 0, 1], [-2 * far, 7], low=-9 * far, high=9 * far)

    def test_bounds_count(self):
        for far in (GREAT, 10 ** 60):
            row = with_roots((-far, far), [-2, 0, 1])
            for low, high, told in ((-far, far, (-far, far)), (1 - far, far, (far,)), (-far, far - 1, (-far,)),
                                    (1 - far, far - 1, ()), (far, far, (far,)), (-far, -far, (-far,)),
                                    (far + 1, far + 1, ()), (far - 1, far + 1, (far,)), (0, 0, ())):
                self.gives(whole_roots, told, row, low, high)

    def test_all_distances(self):
        # A root at each end of a range, whatever its size: also where one digit more is needed.
        for size in [*range(1, 130), *[2 ** power + turn for power in range(7, 60, 4) for turn in (-1, 0, 1)],
                     *[97 ** power + turn for power in range(1, 9) for turn in (-1, 0, 1)]]:
            for low in (0, -size, 7 - size // 2, GREAT):
                row = with_roots((low, low + size), [-2, 3])
                self.gives(whole_roots, (low, low + size), row, low, low + size)
                self.gives(whole_roots, (low,), row, low, low + size - 1)
                self.gives(whole_roots, (low + size,), row, low + 1, low + size)
                self.gives(whole_roots, (low, low + size), row, -GREAT ** 2, GREAT ** 2)

    def test_roots_beyond_the_coefficients(self):
        # All roots of small polynomials, asked for between bounds that are far from all of them.
        for one in range(-25, 26):
            for two in range(one, 26):
                self.found((one, two), low=-GREAT, high=GREAT)
        for power in range(3, 60, 7):
            self.found((12 * 2 ** power, -5 * 2 ** power), low=-GREAT, high=GREAT)
            self.found((-12 * 2 ** power, 5 * 2 ** power), [1, 0, 1], low=-GREAT, high=GREAT)

    def test_roots_that_look_alike(self):
        # Roots, and others beside them, that are the same but for multiples of powers.
        for base in (2, 3, 10, 97):
            for power in (1, 2, 5, 20):
                apart = base ** power
                self.found((5, 5 + apart, 5 + apart * base, 5 - apart, 5, 5 + apart), low=-GREAT, high=GREAT)
                self.found((5, 5 + apart), [-5, 6 + apart], [1 + 2 * apart, 2, 0], low=-GREAT, high=GREAT)
                self.found((0, apart, -apart), [apart, 0, 1], [apart, 1, 1], low=-GREAT, high=GREAT)
                # Its one root above 0, for these make up the last part there; one less has none.
                row = [apart] * 10 + [-1]
                self.gives(whole_roots, (apart + 1,), [apart + 1] + row, 0, GREAT ** 2)
                self.gives(whole_roots, (), [apart + 2] + row, 2, GREAT ** 2)

    def test_great_numbers_ahead(self):
        for factor in (97, 97 ** 30, 10 ** 2000, -2 ** 40):
            for roots in ((3,), (97, 0), (97 ** 5, 97 ** 4, -97)):
                self.found(roots, [factor], low=-GREAT, high=GREAT)
                self.found(roots, [factor, factor * 97 * 2], low=-GREAT, high=GREAT)

    def test_far_bounds(self):
        for far in (GREAT, 10 ** 300, 10 ** 3000):
            self.gives(whole_roots, (2, 3), [6, -5, 1], -far, far)
            self.gives(whole_roots, (), [1] * 12, 0, far)
            self.gives(whole_roots, (-1,), [1] * 12, -far, far)
            self.gives(whole_roots, (), [6, -5, 1], far, far + far)
            self.gives(whole_roots, (0,), [0, 1], -far, far)
            self.gives(whole_roots, (), [7], -far, far)

    def test_drawn(self):
        numbers = Numbers(72)
        for many in range(1, 11):
            for _ in range(8):
                roots = [(numbers.below(2 ** 20) - 2 ** 19) * 10 ** (numbers.below(7) * 6) for _ in range(many)]
                self.found(roots, [3 + 5 * numbers.below(9), 5], low=-10 ** 50, high=10 ** 50)
                self.found(roots, low=0, high=10 ** 12)

    def test_beside_roots(self):
        # One less than a product of far roots: its sign changes where it has no whole root.
        for many in range(2, 12):
            row = with_roots([GREAT * (turn + 1) for turn in range(many)])
            self.gives(whole_roots, (), [row[0] - 1] + row[1:], -GREAT ** 2, GREAT ** 2)


class Wrong(Case):
    """What is told to be refused."""

    def test_coefficients(self):
        for odd in (*NO_LISTS, [], (), [0], [0] * 12, (0, 0), [1] * 13, [0] * 12 + [1], [1] + [0] * 12, [[1]],
                    [1, [2]]):
            self.fails(BadRows("coefficients"), whole_roots, odd, 0, 9)
            self.fails(BadRows("coefficients"), whole_roots, odd, None, "9")
        for odd in NO_INTEGERS:
            self.fails(BadRows("coefficients"), whole_roots, [odd], 0, 9)
            self.fails(BadRows("coefficients"), whole_roots, [1, odd, 1], 0, 9)
            self.fails(BadRows("coefficients"), whole_roots, (1, 1, odd), odd, odd)

    def test_bounds(self):
        for odd in NO_INTEGERS:
            self.fails(BadNumber("low"), whole_roots, [1, 1], odd, 9)
            self.fails(BadNumber("low"), whole_roots, [1, 1], odd, odd)
            self.fails(BadNumber("high"), whole_roots, [1, 1], -9, odd)
        for low, high in ((0, -1), (GREAT, GREAT - 1), (GREAT, -GREAT), (5, 4)):
            self.fails(BadNumber("high"), whole_roots, [1, 1], low, high)
        self.same(whole_roots(high=2, low=2, coefficients=(-2, 1)), (2,))


if __name__ == "__main__":
    unittest.main()
