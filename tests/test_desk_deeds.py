"""Point 14 and the interface, allnear/desk_deeds.py."""

import unittest

from allnear.desk_deeds import done
from allnear.errors import (
    BadNumber, BadPoly, BadReading, BadText, NearError, NoOffer, Nothing, NoPlace, TooMany, Twice,
)
from allnear.readings import Reading
from allnear.schemes import Scheme
from tests.helper import Case, Numbers
from tests.some_lines import (
    ASK_WORDS, DEED_WORDS, NO_STRINGS, READINGS, done_by_row, right_lines, some_line, word_by_row,
)
from tests.some_readings import NO_READINGS

FIVE = Scheme(5, (0, 1, 2, 3, 4), 2)
SOME = Reading.plain(FIVE, [0, 1, 2, 0, 0])
FULL = Reading(Scheme(97, [3, 1], 2), [[(value, 1) for value in range(20)], [(value, 2) for value in range(4)]])


class Done(Case):
    """done, for lines that can be."""

    def is_done(self, reading, line, after, said):
        text = str(reading)
        told = done(reading, line)
        self.same((type(told), len(told)), (tuple, 2))
        self.assertIs(type(told[0]), Reading)
        self.assertTrue(told[0] == after)
        self.same(told[1], said)
        self.same(str(reading), text)
        self.assertTrue(done(line=line, reading=reading) == told)

    def test_each_line(self):
        for line, text, said in (
                ("set 7 2 at 1 at 0", "7 2 at 1 at 0", "2"), ("set 97 2 at 5 at 7 at 0", "97 2 at 5 at 7 at 0", "3"),
                ("read 7 2 at 1 3 3 at 0 0 1 6 2", "7 2 at 1 3 3 at 0 0 1 6 2", "3"), ("read 7 2 at 1 at 0", None, "0"),
                ("offer 0 3 2", "5 2 at 0 0 1 3 2 at 1 1 1 at 2 2 1 at 3 0 1 at 4 0 1", "6"),
                ("strike 2 2", "5 2 at 0 0 1 at 1 1 1 at 2 at 3 0 1 at 4 0 1", "4"),
                ("move 1 2", "5 2 at 0 1 1 at 1 4 1 at 2 2 1 at 3 2 1 at 4 4 1", "5"), ("move 0 0", str(SOME), "5"),
                ("stretch 1", str(SOME), "5"), ("stretch 11", str(SOME), "5"),
                ("stretch 3", "5 2 at 0 0 1 at 1 3 1 at 2 1 1 at 3 0 1 at 4 0 1", "5")):
            self.is_done(SOME, line, Reading.read(text or "7 2 at 1 at 0"), said)
        for line in ("set 5 2 at 0 at 1", "read 5 2 at 0 at 1"):
            self.is_done(None, line, Reading.read("5 2 at 0 at 1"), "2" if line[0] == "s" else "0")
        only = Reading.plain(FIVE, [None, 3, None, None, None])
        self.is_done(only, "strike 1 3", Reading(FIVE, [[]] * 5), "0")

    def test_against_the_methods(self):
        kinds = {}
        for reading, line in right_lines(DEED_WORDS, 110, 1500):
            word, raised = line.split(" ")[0], None
            if word == "move" and word_by_row(reading, line.split(" ")) is None:
                self.fails(BadPoly("word"), done, reading, line)
                kinds[word, BadPoly] = True
                continue
            try:
                expected = done_by_row(reading, line)
            except NearError as error:
                raised = error
            if raised is None:
                self.is_done(reading, line, *expected)
            else:
                self.fails(raised, done, reading, line)
            kinds[word, type(raised)] = True
        for word in DEED_WORDS:
            self.assertIn((word, type(None)), kinds)
        for word, error in (("offer", NoPlace), ("offer", BadNumber), ("offer", Twice), ("strike", NoPlace),
                            ("strike", NoOffer), ("move", BadPoly), ("stretch", BadNumber)):
            self.assertIn((word, error), kinds)


class Refused(Case):
    """Errors, in their order."""

    def test_no_readings(self):
        for odd in NO_READINGS:
            if odd is not None:
                for line in ("set 5 2 at 0 at 1", "offer 0 3 1", "reach", "x", "", None):
                    self.fails(BadReading("reading"), done, odd, line)

    def test_no_deed_lines(self):
        for reading in (None, SOME, FULL):
            for odd in (*NO_STRINGS, "", " ", "x", "Set 5 2 at 0 at 1", "reach", "near", "near 3", "near x", "reading",
                        "undo", "score 0 1", "alone 9 9", "offers 0 3 1", " offer 0 3 1"):
                self.fails(BadText(0, 0), done, reading, odd)
        for reading, line in right_lines(ASK_WORDS, 111, 60):
            self.fails(BadText(0, 0), done, reading, line)
            self.fails(BadText(0, 0), done, None, line)

    def test_bad_lines(self):
        for reading in (None, SOME, FULL):
            for line, item in (("offer 0 3", 3), ("offer 0 x 1", 2), ("strike 0 0 0", 3), ("move", 1), ("move 1 -1", 2),
                               ("stretch", 1), ("set 7 2 at 0", 5), ("set", 1), ("read 7 2 at 0 3 1 at 0", 8),
                               ("read ", 1)):
                self.fails(BadText(0, item), done, reading, line)

    def test_nothing(self):
        for line in ("offer 0 3 1", "offer 99 99 99", "strike 0 0", "move 0 1", "move 9 9 9 9 9 9 9", "stretch 0",
                     "stretch 2"):
            self.fails(Nothing(), done, None, line)
        for word in DEED_WORDS[2:]:
            self.fails(Nothing(), done, None, some_line(word, Numbers(5), SOME))

    def test_words(self):
        for line in ("move 0", "move 0 1 2", "move 0 5", "move 5 0", "move 0 " + "9" * 60, "move 0 0 0 0 0 0 0"):
            self.fails(BadPoly("word"), done, SOME, line)
        for reading in READINGS:
            self.fails(BadPoly("word"), done, reading, "move" + " 0" * (reading.scheme.k + 1))
            self.fails(BadPoly("word"), done, reading, "move" + " 0" * (reading.scheme.k - 1))
            self.fails(BadPoly("word"), done, reading, "move" + " 0" * (reading.scheme.k - 1) + f" {reading.scheme.p}")

    def test_errors_of_methods(self):
        for reading, line, error in (
                (SOME, "offer 5 0 1", NoPlace(5)), (SOME, "offer 5 9 9", NoPlace(5)),
                (SOME, "offer 0 5 9", BadNumber("value")), (SOME, "offer 0 0 4", BadNumber("weight")),
                (SOME, "offer 0 0 0", BadNumber("weight")), (SOME, "offer 3 0 3", Twice(0)),
                (FULL, "offer 0 5 1", Twice(5)), (FULL, "offer 1 50 1", TooMany("offers", 24)),
                (FULL, "offer 2 50 1", NoPlace(2)), (SOME, "strike 5 0", NoPlace(5)), (SOME, "strike 0 1", NoOffer(1)),
                (SOME, "strike 0 7", NoOffer(7)), (SOME, "stretch 0", BadNumber("by")),
                (SOME, "stretch 5", BadNumber("by")), (FULL, "stretch " + str(97 * 10 ** 20), BadNumber("by")),
                (SOME, f"offer {10 ** 59} 0 1", NoPlace(10 ** 59))):
            text = str(reading)
            self.fails(error, done, reading, line)
            self.same(str(reading), text)


if __name__ == "__main__":
    unittest.main()
