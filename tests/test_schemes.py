"""Point 5 and the interface, allnear/schemes.py."""

import unittest

from allnear.checks import PRIMES
from allnear.errors import BadNumber, BadScheme, BadText, Twice
from allnear.schemes import Scheme
from tests.helper import GREAT, NO_INTEGERS, NO_LISTS, PRIMES_WRITTEN, Case, Numbers, Odd

NO_PRIMES = (*NO_INTEGERS, 0, 1, 4, -5, 91, 98, 101, GREAT)


def some_scheme(p, many, k, seed):
    """A scheme with so many places in any order."""
    return Scheme(p, Numbers(seed).pick(range(p), many), k)


class Made(Case):
    """What makes a scheme, and what does not."""

    def test_every_prime(self):
        for p in PRIMES:
            for many in (2, 3, 7, min(p, 16), 16):
                if many > p:
                    continue
                for k in range(2, min(many, 6) + 1):
                    places = Numbers(p).pick(range(p), many)
                    scheme = Scheme(p, places, k)
                    self.same((scheme.p, scheme.places, scheme.k), (p, tuple(places), k))
                    self.same(len(scheme), many)

    def test_each_k(self):
        for many in range(2, 17):
            for k in range(-1, 20):
                places = list(range(many))
                if 2 <= k <= min(6, many):
                    self.same(Scheme(97, places, k).k, k)
                else:
                    self.fails(BadScheme("k"), Scheme, 97, places, k)
        for k in (*NO_INTEGERS, 2.0, GREAT, -GREAT):
            self.fails(BadScheme("k"), Scheme, 97, [0, 1], k)

    def test_no_prime(self):
        for p in NO_PRIMES:
            self.fails(BadScheme("p"), Scheme, p, [0, 1], 2)
            self.fails(BadScheme("p"), Scheme, p, [0, 0], 9)

    def test_no_places(self):
        for odd in NO_LISTS:
            self.fails(BadScheme("places"), Scheme, 7, odd, 2)
        for odd in (*NO_INTEGERS, -1, 7, 8, GREAT):
            self.fails(BadScheme("places"), Scheme, 7, [0, odd, 1], 2)
            self.fails(BadScheme("places"), Scheme, 7, (0, 0, odd), 9)
        for many in (0, 1, 17, 18, 40):
            self.fails(BadScheme("places"), Scheme, 97, list(range(many)), 2)
            self.fails(BadScheme("places"), Scheme, 97, [0] * many, 9)

    def test_twice(self):
        self.fails(Twice(1), Scheme, 5, [0, 1, 2, 1], 9)
        self.fails(Twice(3), Scheme, 7, [3, 3], 2)
        self.fails(Twice(2), Scheme, 7, (1, 2, 4, 2, 1, 4), None)
        self.fails(Twice(0), Scheme, 2, [0, 1, 0], 2)

    def test_copied_and_equal(self):
        places = [1, 2, 4]
        scheme = Scheme(7, places, 2)
        places.append(3)
        self.same(scheme.places, (1, 2, 4))
        self.assertTrue(scheme == Scheme(7, (1, 2, 4), 2))
        self.assertFalse(scheme != Scheme(p=7, places=(1, 2, 4), k=2))
        for other in (Scheme(7, [1, 4, 2], 2), Scheme(7, [1, 2, 4], 3), Scheme(5, [1, 2, 4], 2), Scheme(7, [1, 2], 2)):
            self.assertFalse(scheme == other)
            self.assertTrue(scheme != other)
        for other in (None, True, (7, (1, 2, 4), 2), str(scheme), Odd(), [scheme]):
            self.assertIs(scheme == other, False)
            self.assertIs(other == scheme, False)

    def test_listed(self):
        for name in ("renamed", "read", "__str__", "__len__", "__eq__"):
            self.assertIn(name, vars(Scheme))


class Renamed(Case):
    """The place stretch * a + shift for each place a."""

    def test_renamed(self):
        for p in (2, 3, 7, 97):
            scheme = some_scheme(p, min(p, 9), 2, p)
            for stretch in (1, -1, p - 1, p + 1, GREAT + 1, 3, 1 - p):
                if stretch % p == 0:
                    continue
                for shift in (0, 1, -1, p, GREAT):
                    told = scheme.renamed(stretch, shift)
                    self.same(told.places, tuple((stretch * a + shift) % p for a in scheme.places))
                    self.same((told.p, told.k), (p, 2))
                    back = pow(stretch, -1, p)
                    self.assertTrue(told.renamed(back, -shift * back) == scheme)
                    self.assertTrue(scheme.renamed(shift=shift, stretch=stretch) == told)

    def test_raises(self):
        scheme = Scheme(7, [1, 2, 4], 2)
        for odd in (*NO_INTEGERS, 0, 7, -14, 7 * GREAT):
            self.fails(BadNumber("stretch"), scheme.renamed, odd, 1)
            self.fails(BadNumber("stretch"), scheme.renamed, odd, None)
        for odd in NO_INTEGERS:
            self.fails(BadNumber("shift"), scheme.renamed, 1, odd)
        self.same(scheme.places, (1, 2, 4))


def first_wrong(items):
    """The item that BadText tells for the text of a scheme, None for a right text."""
    if items[0] not in PRIMES_WRITTEN:
        return 0
    p = int(items[0])
    if items[1:2] not in [[str(k)] for k in range(2, min(p, 6) + 1)]:
        return 1
    told = []
    for at in range(2, len(items)):
        if at % 2 == 0:
            if items[at] != "at" or len(told) in (p, 16):
                return at
        else:
            if items[at] in told or items[at] not in [str(sign) for sign in range(p)]:
                return at
            told.append(items[at])
    return len(items) if len(told) < int(items[1]) or len(items) % 2 else None


class Texts(Case):
    """str and read."""

    def test_there_and_back(self):
        for p in PRIMES:
            for many in (2, 5, 16):
                if many > p:
                    continue
                for k in (2, min(many, 6)):
                    scheme = some_scheme(p, many, k, p + many)
                    self.same(str(scheme), f"{p} {k}" + "".join(f" at {place}" for place in scheme.places))
                    self.same(Scheme.read(str(scheme)).places, scheme.places)
                    self.assertTrue(Scheme.read(str(scheme)) == scheme)

    def test_no_string(self):
        for odd in (None, True, 0, 7, b"7 2 at 0 at 1", ["7", "2"], {}, Odd(), Scheme(7, [0, 1], 2)):
            self.fails(BadText(0, 0), Scheme.read, odd)

    def test_told_items(self):
        many = " ".join(f"at {place}" for place in range(16))
        for text, item in (("", 0), ("7", 1), ("7 ", 1), ("7 2", 2), ("7 2 ", 2), ("7 2 at", 3), ("7 2 at 0", 4),
                           ("7 2 at 0 at", 5), ("7 2 at 0 at 0", 5), ("7 2 at 7", 3), ("7 2 at 0 at 1 at", 7),
                           ("7 3 at 0 at 5", 6), ("7 1 at 0 at 1", 1), ("7 7 at 0 at 1", 1), ("5 6 at 0", 1),
                           ("2 3 at 0 at 1", 1), ("3 4", 1), ("2 2 at 0 at 1 at 0", 6), ("2 2 at 1 at 0 at", 6),
                           ("6 2 at 0 at 1", 0), ("7 2 at 0 2 at 1", 4), ("7 2 at 0 1", 4), ("7 2 0 1", 2),
                           ("7 2 at at 0", 3), ("7 2 at -1", 3), ("7 2 at 00 at 1", 3), ("7 2 at 0 at 1 ", 6),
                           ("7 2 at 0  at 1", 4), (f"17 2 {many} at 16", 34), (f"97 6 {many} at", 34),
                           (f"97 6 {many} x", 34), (f"17 2 {many} at 0", 34), ("5 5 at 4 at 3 at 2 at 1", 10)):
            self.fails(BadText(0, item), Scheme.read, text)
        self.same(len(Scheme.read(f"17 2 {many}")), 16)
        self.same(Scheme.read("5 5 at 4 at 3 at 2 at 1 at 0").k, 5)

    def test_changed(self):
        texts = ("7 2 at 1 at 2 at 4", "2 2 at 1 at 0", "97 4 at 96 at 0 at 1 at 5 at 4",
                 "5 5 at 4 at 3 at 2 at 1 at 0")
        self.reads_changed(Scheme, texts, first_wrong)


if __name__ == "__main__":
    unittest.main()
