"""Points 2 and 5: the texts of readings."""

import unittest

from allnear.errors import BadText
from allnear.readings import Reading
from allnear.schemes import Scheme
from tests.helper import PRIMES_WRITTEN, Case, Odd
from tests.test_readings import READING, SOME


def first_wrong(items):
    """The item that BadText tells for the text of a reading, None for a right text."""
    if items[0] not in PRIMES_WRITTEN:
        return 0
    p = int(items[0])
    if items[1:2] not in [[str(k)] for k in range(2, min(p, 6) + 1)]:
        return 1
    signs = [str(sign) for sign in range(p)]
    places, many, last, awaited = [], 0, None, "at"
    for at, item in enumerate(items):
        if at < 2:
            continue
        if awaited == "place":
            if item in places or item not in signs:
                return at
            places.append(item)
            last, awaited = -1, "either"
        elif awaited == "weight":
            if item not in ("1", "2", "3"):
                return at
            awaited = "either"
        elif item == "at" and len(places) < min(16, p):
            awaited = "place"
        elif awaited == "either" and item in signs and int(item) > last and many < 24:
            many, last, awaited = many + 1, int(item), "weight"
        else:
            return at
    return len(items) if len(places) < int(items[1]) or awaited in ("place", "weight") else None


class Texts(Case):
    """str and read."""

    def test_there_and_back(self):
        for reading in SOME + [READING]:
            parts = [str(reading.scheme.p), str(reading.scheme.k)]
            for place, pairs in zip(reading.scheme.places, reading.offers):
                parts += ["at", str(place)]
                for value, weight in pairs:
                    parts += [str(value), str(weight)]
            self.same(str(reading), " ".join(parts))
            self.same(Reading.read(str(reading)).offers, reading.offers)
            self.assertTrue(Reading.read(str(reading)) == reading)

    def test_as_of_the_scheme(self):
        empty = Reading(Scheme(7, [1, 2, 4], 2), [[], [], []])
        self.same(str(empty), str(empty.scheme))
        self.assertTrue(Reading.read(str(empty.scheme)) == empty)

    def test_no_string(self):
        for odd in (None, True, 0, 7, b"7 2 at 0 at 1", ["7", "2"], {}, Odd(), READING):
            self.fails(BadText(0, 0), Reading.read, odd)

    def test_told_items(self):
        full = " ".join(f"{value} 1" for value in range(24))
        wide = " ".join(f"at {place}" for place in range(16))
        for text, item in (("", 0), ("7", 1), ("7 2", 2), ("7 2 at", 3), ("7 2 at 0", 4), ("7 2 at 0 3", 5),
                           ("7 2 at 0 3 1", 6), ("7 2 at 0 3 1 at", 7), ("7 2 at 0 3 1 at 0", 7),
                           ("7 2 at 0 3 1 3 1 at 1", 6), ("7 2 at 0 3 1 2 1 at 1", 6), ("7 2 at 0 3 0 at 1", 5),
                           ("7 2 at 0 3 4 at 1", 5), ("7 2 at 0 3 at 1", 5), ("7 2 at 0 7 1 at 1", 4),
                           ("7 2 at 0 -1 1 at 1", 4), ("7 2 3 1", 2), ("7 2 at 0 at 1 6 3 ", 8), ("7 2 at 0 at 1 ", 6),
                           ("7 2 at 0 at 1 6", 7), ("7 2 at 0 6 1 7 1", 6), ("7 2 at 0 / at 1", 4),
                           ("7 2 at 0 3 01 at 1", 5), ("7 2 at 0 03 1 at 1", 4), ("2 2 at 0 at 1 0 1 1 1 at", 10),
                           (f"97 2 at 0 {full} 24 1 at 1", 52), (f"97 2 at 0 {full} at 1 24 1", 54),
                           (f"97 2 at 0 {full} at 1 0", 54), (f"97 2 at 0 {full} at 1 x", 54),
                           (f"97 2 at 0 {full}", 52), (f"97 2 {wide} 3 1 at 16", 36), ("6 2 at 0 at 1", 0),
                           ("5 6 at 0 1 1 at 1", 1), ("7 1 at 0 at 1", 1), ("7 3 at 0 1 1 at 1 1 1", 10)):
            self.fails(BadText(0, item), Reading.read, text)
        self.same(len(Reading.read(f"97 2 at 0 {full} at 1").points), 24)
        self.same(Reading.read("7 2 at 0 at 1 6 3").offers, ((), ((6, 3),)))

    def test_changed(self):
        texts = (str(READING), "2 2 at 1 0 1 1 3 at 0", "97 2 at 96 0 1 96 2 at 5", "5 3 at 0 at 4 at 1 2 3")
        self.reads_changed(Reading, texts, first_wrong)


if __name__ == "__main__":
    unittest.main()
