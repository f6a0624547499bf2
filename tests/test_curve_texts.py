"""Points 2 and 6: the texts of curves."""

import unittest

from allnear.curves import Curve
from allnear.errors import BadText
from tests.helper import PRIMES_WRITTEN, SOME_PRIMES, Case, Odd
from tests.test_curves import some_curves


def first_wrong(items):
    """The item that BadText tells for the text of a curve, None for a right text."""
    if items[0] not in PRIMES_WRITTEN:
        return 0
    if items[1:2] != [":"]:
        return 1
    signs = [str(sign) for sign in range(int(items[0]))]
    for at in range(2, len(items)):
        if items[at] != "/" and items[at] not in signs:
            return at
        if items[at] == "/" and items[at - 1] == "0":
            return at
    return None if items[-1] == "/" and items[-2] in signs else len(items)


class Texts(Case):
    """str and read."""

    def test_there_and_back(self):
        for p in SOME_PRIMES:
            for curve in some_curves(p):
                text = f"{p} :" + "".join("".join(f" {sign}" for sign in row) + " /" for row in curve.rows)
                self.same(str(curve), text)
                self.same(Curve.read(text).rows, curve.rows)
                self.assertTrue(Curve.read(text) == curve)

    def test_long(self):
        for curve in (Curve(97, [[]] * 20000 + [[1]]), Curve(97, [[1 + at % 96 for at in range(20000)]])):
            self.assertTrue(Curve.read(str(curve)) == curve)

    def test_no_string(self):
        for odd in (None, True, 0, 5, b"5 : 1 /", ["5", ":", "1", "/"], {}, Odd(), Curve(5, [[1]])):
            self.fails(BadText(0, 0), Curve.read, odd)

    def test_told_items(self):
        for text, item in (("", 0), ("5", 1), ("5 ", 1), ("5 :", 2), ("5 : ", 2), ("5 : /", 3), ("5 : / /", 4),
                           ("5 : 3", 3), ("5 : 3 0", 4), ("5 : 3 0 /", 4), ("5 : 3 0 / 1 /", 4), ("5 : 0 /", 3),
                           ("5 : 0", 3), ("5 : 3 / /", 5), ("5 : 3 / / 1", 6), ("5 : 3 / / 1 / /", 8), ("5 : 3 / 0", 5),
                           ("5 : 3 / 1", 5), ("5 : 5 /", 2), ("5 : 3  /", 3), ("5 : 3 / ", 4), ("5 : 3 /  1 /", 4),
                           ("5 : -1 /", 2), ("5 : 03 /", 2), ("5 : 3 : /", 3), ("5 : 3/", 2), ("4 : 3 /", 0),
                           ("5 / 3 /", 1), ("5 3 /", 1), ("5 : 3 / 1 /\n", 5), ("5 : 3 / 0 / 1 /", 5)):
            self.fails(BadText(0, item), Curve.read, text)

    def test_changed(self):
        self.reads_changed(Curve, ("5 : / 0 4 / 1 /", "2 : 1 /", "97 : 0 96 / / / 3 /", "3 : 2 / 0 0 1 /"), first_wrong)


if __name__ == "__main__":
    unittest.main()
