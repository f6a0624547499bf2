"""Points 2 and 4: the texts of polynomials."""

import unittest

from allnear.errors import BadText
from allnear.polys import Poly
from tests.helper import PRIMES_WRITTEN, SOME_PRIMES, Case, Numbers, Odd

def first_wrong(items):
    """The item that BadText tells for the text of a polynomial, None for a right text."""
    if items[0] not in PRIMES_WRITTEN:
        return 0
    if items[1:2] != [":"]:
        return 1
    signs = [str(sign) for sign in range(int(items[0]))]
    for at in range(2, len(items)):
        if items[at] not in signs:
            return at
    return len(items) - 1 if len(items) > 2 and items[-1] == "0" else None


class Texts(Case):
    """str and read."""

    def test_there_and_back(self):
        numbers = Numbers(20)
        for p in SOME_PRIMES:
            for size in range(8):
                poly = Poly(p, numbers.some(size, p))
                self.same(str(poly), " ".join([str(p), ":"] + [str(sign) for sign in poly.coefficients]))
                self.same(Poly.read(str(poly)), poly)
                self.same(Poly.read(str(poly)).coefficients, poly.coefficients)

    def test_long(self):
        poly = Poly(97, [1 + at % 96 for at in range(30000)])
        self.assertTrue(Poly.read(str(poly)) == poly)

    def test_no_string(self):
        for odd in (None, True, 0, 7, b"7 :", ["7", ":"], ("7",), {}, Odd(), Poly(7), str):
            self.fails(BadText(0, 0), Poly.read, odd)

    def test_told_items(self):
        for text, item in (("", 0), (" ", 0), (" 7 :", 0), ("7", 1), ("7 ", 1), ("7:", 0), ("7  :", 1), ("7 : ", 2),
                           ("7 : 0", 2), ("7 : 3 0", 3), ("7 : 0 0", 3), ("7 : 3 ", 3), ("7 : 3  1", 3), ("7 : 7", 2),
                           ("7 : 1 -1", 3), ("7 : 1 +1", 3), ("7 : 01", 2), ("7 : 1 : 2", 3), ("8 : 1", 0),
                           ("1 :", 0), ("07 :", 0), ("-7 :", 0), ("+7 :", 0), ("101 : 1", 0), ("7 1", 1),
                           ("7 : 1 0 8 0", 4), ("7\n:", 0), ("7 :\n", 1), ("7 : 1\n", 2), ("7 : -0", 2)):
            self.fails(BadText(0, item), Poly.read, text)

    def test_changed(self):
        self.reads_changed(Poly, ("7 : 3 0 1", "7 :", "2 : 1", "97 : 0 96", "3 : 0 0 0 2"), first_wrong)


if __name__ == "__main__":
    unittest.main()
