"""The interface, allnear/checks.py."""

import unittest

from allnear.checks import PRIMES, first_twice, is_integer, is_numbers, is_prime, is_sign, is_within
from allnear.papers import fixed
from tests.helper import GREAT, NO_INTEGERS, NO_LISTS, Case

ALL_PRIMES = tuple(p for p in range(2, 98) if all(p % q for q in range(2, p)))


class Integers(Case):
    """Integers, with bounds and without."""

    def test_integers(self):
        for value in (0, 1, -1, 97, GREAT, -GREAT, 10 ** 6000):
            self.assertIs(is_integer(value), True)

    def test_no_integers(self):
        for value in NO_INTEGERS:
            self.assertIs(is_integer(value), False, value)
            self.assertIs(is_within(value, None, None), False, value)
            self.assertIs(is_within(value, 0, 1), False, value)
            self.assertIs(is_within(value, 0, None), False, value)
            self.assertIs(is_within(value, None, 1), False, value)

    def test_bounds(self):
        for value in range(-4, 5):
            for least in (None, *range(-4, 5)):
                for most in (None, *range(-4, 5)):
                    told = (least is None or value >= least) and (most is None or value <= most)
                    self.assertIs(is_within(value, least, most), told, (value, least, most))

    def test_great_bounds(self):
        self.gives(is_within, True, GREAT, GREAT, GREAT)
        self.gives(is_within, False, GREAT, GREAT + 1, None)
        self.gives(is_within, False, -GREAT, 1 - GREAT, None)
        self.gives(is_within, False, GREAT + 1, None, GREAT)
        self.gives(is_within, True, -GREAT, None, GREAT)

    def test_numbers(self):
        for value in ([], (), [1], (1, -2), [0] * 1000, [GREAT, -GREAT], (0,)):
            self.assertIs(is_numbers(value), True, value)
        for value in NO_LISTS:
            self.assertIs(is_numbers(value), False, value)
        for odd in NO_INTEGERS:
            for value in ([odd], (odd,), [1, odd], (1, 2, odd, 3)):
                self.assertIs(is_numbers(value), False, value)


class Primes(Case):
    """The 25 primes, and the signs of each."""

    def test_primes(self):
        self.same(PRIMES, ALL_PRIMES)
        self.assertEqual(len(PRIMES), 25)
        for value in range(-100, 300):
            self.assertIs(is_prime(value), value in ALL_PRIMES, value)
        for value in (GREAT, -GREAT, 101, 2 ** 61 - 1, *NO_INTEGERS, 2.0, "2", 7.0):
            self.assertIs(is_prime(value), False, value)

    def test_signs(self):
        for p in ALL_PRIMES:
            for value in (-GREAT, -p, -1, 0, 1, p - 2, p - 1, p, p + 1, 2 * p, GREAT):
                self.assertIs(is_sign(p, value), 0 <= value < p, (p, value))
            for value in NO_INTEGERS:
                self.assertIs(is_sign(p, value), False, (p, value))

    def test_signs_of_no_prime(self):
        for p in (*NO_INTEGERS, 0, 1, -2, 4, 91, 96, 98, 101, GREAT):
            for value in (0, 1, None, "a", []):
                self.assertIs(is_sign(p, value), False, (p, value))


class FirstTwice(Case):
    """The first value that equals one ahead of it."""

    def test_integers(self):
        for values, told in (([], None), ([5], None), ([1, 2, 3], None), ([3, 1, 3], 3), ([1, 2, 2, 1], 2),
                             ([1, 2, 1, 2], 1), ((0, -1, 0), 0), ([-1, -2, -2], -2), ([GREAT, 1, GREAT], GREAT),
                             (list(range(5000)) + [4999], 4999), (list(range(20000)), None), ([7, 7, 7], 7)):
            self.gives(first_twice, told, values)

    def test_tuples(self):
        for values, told in (([(1, 2), (2, 1), (1, 2)], (1, 2)), ([(1,), (1, 1), 1], None), ([(), 0, ()], ()),
                             ([1, (1,), ((1,),), (1,)], (1,)), ([(1, (2, 3)), (1, 2, 3), ((1, 2), 3)], None),
                             ([((1, 2), 3), (1, (2, 3)), (1, (2, 3))], (1, (2, 3))),
                             ([(), ((),), ((), ()), ((),)], ((),)), ([(1, 2), (12,), (1, 2)], (1, 2)),
                             ([(1, -2), (1, -1), (-1, 1)], None), (((0, 1), (0, 1)), (0, 1))):
            self.gives(first_twice, told, values)

    def test_lists_for_tuples(self):
        self.same(fixed(first_twice([[1, 2], (1, 2)])), (1, 2))
        self.same(fixed(first_twice([(1, [2]), (3,), [1, [2]]])), (1, (2,)))
        self.gives(first_twice, None, [[1, 2], [2, 1]])

    def test_deep(self):
        deep, other = 1, 2
        for _ in range(55):
            deep, other = (deep,), (other,)
        self.gives(first_twice, None, [deep, other, (deep,)])
        self.gives(first_twice, other, [deep, other, (deep,), other, deep])

    def test_nothing_is_changed(self):
        values = [[1, [2]], 3, [1, [2]]]
        first_twice(values)
        self.same(values, [[1, [2]], 3, [1, [2]]])


if __name__ == "__main__":
    unittest.main()
