"""Points 2 and 13: the texts of rests."""

import unittest

from allnear.errors import BadText
from allnear.rests import Rests
from tests.helper import PRIMES_WRITTEN, Case, Odd
from tests.some_rests import BOOK, FAR, FEW, SMALL, product_of


def is_written(item):
    """Whether it is an integer as texts write it, of 60 digits at most."""
    digits = item[1:] if item[:1] == "-" else item
    return bool(digits) and set(digits) <= set("0123456789") and len(digits) <= 60 and str(int(item)) == item


def first_wrong(items):
    """The item that BadText tells for the text of rests, None for a right text."""
    if not is_written(items[0]) or int(items[0]) < 1:
        return 0
    primes, rests, awaited = [], [], "sign"
    for at, item in enumerate(items):
        if at == 0:
            continue
        if awaited == "sign":
            if item != ("/" if primes else ":") or len(primes) == 8:
                return at
            awaited = "prime"
        elif awaited == "prime":
            if item not in PRIMES_WRITTEN or int(item) in primes:
                return at
            primes.append(int(item))
            awaited = "rest"
        else:
            if item != "-" and item not in [str(rest) for rest in range(primes[-1])]:
                return at
            rests.append(item)
            awaited = "sign"
    if awaited != "sign" or len(primes) < 2:
        return len(items)
    product = product_of([prime for prime, rest in zip(primes, rests) if rest != "-"])
    return None if int(items[0]) < product else len(items) - 1


class Texts(Case):
    """str and read."""

    def test_there_and_back(self):
        for rests in SMALL + FAR:
            parts = [f"{prime} {'-' if rest is None else rest}" for prime, rest in zip(rests.primes, rests.rests)]
            self.same(str(rests), f"{rests.most} : " + " / ".join(parts))
            told = Rests.read(str(rests))
            self.assertTrue(told == rests)
            self.same((told.primes, told.rests, told.most), (rests.primes, rests.rests, rests.most))

    def test_no_string(self):
        for odd in (None, True, 0, 7, b"3 : 5 3 / 7 3", ["3", ":"], ("3",), {}, Odd(), FEW, str):
            self.fails(BadText(0, 0), Rests.read, odd)

    def test_told_items(self):
        eight = "9 : 2 1 / 3 1 / 5 1 / 7 1 / 11 1 / 13 1 / 17 1 / 19 1"
        for text, item in (("", 0), ("3", 1), ("3 ", 1), ("3 :", 2), ("3 : 5", 3), ("3 : 5 3", 4), ("3 : 5 3 /", 5),
                           ("3 : 5 3 / 7", 6), ("3 : 5 3 / 7 7", 6), ("3 : 5 5 / 7 3", 3), ("3 : 5 3 / 5 3", 5),
                           ("3 : 5 3 7 3", 4), ("3 5 3 / 7 3", 1), ("0 : 5 3 / 7 3", 0), ("-3 : 5 3 / 7 3", 0),
                           ("03 : 5 3 / 7 3", 0), ("35 : 5 3 / 7 3", 6), ("7 : 5 - / 7 3", 6), ("5 : 5 3 / 7 -", 6),
                           ("1 : 5 - / 7 -", 6), ("3 : 5 3 / 7 3 /", 8), ("3 : 5 3 / 7 3 ", 7), ("3 : 5 3 / 7 3 11", 7),
                           ("3 : 4 3 / 7 3", 2), ("3 : 5 3 : 7 3", 4), ("3 / 5 3 / 7 3", 1), ("3 : 5 -1 / 7 3", 3),
                           ("3 : 5 -- / 7 3", 3), ("3 : 5 None / 7 3", 3), ("3 : 101 3 / 7 3", 2), ("- : 5 3 / 7 3", 0),
                           ("3 : 5 3 / 7 3 / 5 1", 8), ("3 : 5 3  / 7 3", 4), (eight + " /", 25), (eight + " x", 25),
                           (eight + " / 23 1", 25), (eight + " ", 25), (eight[:-2], 24), ("9" * 60 + " : 5 3 / 7 3", 6),
                           ("9" * 61 + " : 5 3 / 7 3", 0), ("9" * 60 + " : 5 3 / 7", 6), ("9" * 60 + " : 5 3", 4),
                           ("9699690" + eight[1:], 24), ("36 : 5 3 / 7 3 / 11 -", 9)):
            self.fails(BadText(0, item), Rests.read, text)
        self.same(len(Rests.read(eight).primes), 8)
        self.same(Rests.read("9699689" + eight[1:]).product, 9699690)
        self.same(Rests.read("34 : 5 - / 7 3 / 2 - / 11 10").rests, (None, 3, None, 10))

    def test_changed(self):
        texts = (str(FEW), "1 : 2 1 / 3 -", str(BOOK), "34 : 5 3 / 7 3", "12 : 3 0 / 2 - / 5 4", "12 : 97 96 / 89 -")
        self.reads_changed(Rests, texts, first_wrong)

    def test_a_long_text(self):
        self.fails(BadText(0, 25), Rests.read, "9 : " + " / ".join(f"{prime} 1" for prime in PRIMES_WRITTEN))
        self.fails(BadText(0, 5), Rests.read, "3 : " + " / ".join(["5 3"] * 9000))


if __name__ == "__main__":
    unittest.main()
