"""Point 14 and the interface, allnear/desk_asks.py."""

import unittest

from allnear.desk_asks import answer
from allnear.errors import BadNumber, BadPoly, BadReading, BadText, Beyond, Impossible, NearError, Nothing
from allnear.near import all_near
from allnear.readings import Reading
from tests.helper import Case
from tests.some_lines import ASK_WORDS, DEED_WORDS, NO_STRINGS, READINGS, answered_by_row, right_lines, word_by_row
from tests.some_readings import NO_READINGS, two_words
from tests.test_desk_deeds import FIVE, FULL, SOME


class Answers(Case):
    """answer, for lines that can be."""

    def test_each_line(self):
        for line, said in (("reading", "5 2 at 0 0 1 at 1 1 1 at 2 2 1 at 3 0 1 at 4 0 1"), ("reach", "3 1"),
                           ("near 3", "0 0 / 0 1"), ("near 4", "-"), (f"near {10 ** 20}", "-"),
                           ("nearest", "3 / 0 0 / 0 1"), ("score 0 1", "3"), ("score 0 0", "3"), ("score 3 0", "0"),
                           ("at 3 0", "0"), ("at 3 2", "0 2"), ("at 9 2", "-"), ("judge 3 0 0", "must"),
                           ("judge 3 2 2", "can"), ("judge 3 2 1", "cannot"), ("look 3", "1 1"), ("alone 3", "twins"),
                           ("alone 4", "alone"), ("alone 1", "twins")):
            self.gives(answer, said, SOME, line)
        self.gives(answer, "4 / 0 1", Reading.plain(FIVE, [0, 1, 2, 3, 0]), "nearest")
        self.gives(answer, "0 1", Reading.plain(FIVE, [0, 1, 2, 3, 0]), "near 3")
        empty = Reading(FIVE, [[]] * 5)
        for line, said in (("reading", str(FIVE)), ("reach", "1 1"), ("near 1", "-"), ("nearest", "far"),
                           ("score 4 4", "0"), ("at 1 0", "-"), ("alone 5", "alone")):
            self.gives(answer, said, empty, line)
        self.same(answer(line="reach", reading=SOME), "3 1")

    def test_three_words(self):
        reading = two_words(7, 7, 2, 1)
        t = int(answer(reading, "reach").split(" ")[0])
        told = answer(reading, f"near {t}").split(" / ")
        self.same([tuple(int(sign) for sign in word.split(" ")) for word in told], list(all_near(reading, t).words))
        self.same(len(told), 3)

    def test_against_the_functions(self):
        kinds = {}
        for reading, line in right_lines(ASK_WORDS, 120, 1300):
            word, raised, text = line.split(" ")[0], None, str(reading)
            if word == "score" and word_by_row(reading, line.split(" ")) is None:
                self.fails(BadPoly("word"), answer, reading, line)
                kinds[word, BadPoly] = True
                continue
            try:
                expected = answered_by_row(reading, line)
            except NearError as error:
                raised = error
            if raised is None:
                self.gives(answer, expected, reading, line)
                self.gives(answer, expected, reading, line)
                kinds[word, expected in ("-", "far")] = True
            else:
                self.fails(raised, answer, reading, line)
                kinds[word, type(raised)] = True
            self.same(str(reading), text)
        for word in ASK_WORDS:
            self.assertIn((word, False), kinds)
        for kind in (("near", True), ("at", True), ("nearest", True), ("score", BadPoly), ("near", Beyond),
                     ("at", BadNumber), ("judge", Impossible), ("judge", BadNumber), ("look", Impossible),
                     ("look", Beyond), ("alone", BadNumber)):
            self.assertIn(kind, kinds)


class Refused(Case):
    """Errors, in their order."""

    def test_no_readings(self):
        for odd in NO_READINGS:
            if odd is not None:
                for line in ("reach", "near 3", "near", "set 5 2 at 0 at 1", "x", "", None):
                    self.fails(BadReading("reading"), answer, odd, line)

    def test_no_ask_lines(self):
        for reading in (None, SOME, FULL):
            for odd in (*NO_STRINGS, "", " ", "x", "Reach", "reach\n", "set 5 2 at 0 at 1", "set", "offer 0 3 1",
                        "offer", "undo", "redo", "read x", "stretch 2", " reach"):
                self.fails(BadText(0, 0), answer, reading, odd)
        for reading, line in right_lines(DEED_WORDS, 121, 60):
            self.fails(BadText(0, 0), answer, reading, line)
            self.fails(BadText(0, 0), answer, None, line)

    def test_bad_lines(self):
        for reading in (None, SOME, FULL):
            for line, item in (("reach 3", 1), ("near", 1), ("near x", 1), ("near 3 3", 2), ("at 3", 2),
                               ("judge 3 0 -1", 3), ("score", 1), ("score 0 -1", 2), ("look ", 1), ("alone 03", 1),
                               ("reading ", 1)):
                self.fails(BadText(0, item), answer, reading, line)

    def test_nothing(self):
        for line in ("reading", "reach", "near 0", "near 3", "nearest", "score 0 1", "score 9 9 9 9 9 9 9", "at 0 0",
                     "judge 0 9 9", "look 3", "alone 0", "alone 3"):
            self.fails(Nothing(), answer, None, line)

    def test_words(self):
        for line in ("score 0", "score 0 1 2", "score 0 5", "score 7 0", "score 0 " + "9" * 60):
            self.fails(BadPoly("word"), answer, SOME, line)
        for reading in READINGS:
            self.fails(BadPoly("word"), answer, reading, "score" + " 0" * (reading.scheme.k + 1))
            self.fails(BadPoly("word"), answer, reading, "score" + " 0" * (reading.scheme.k - 1))

    def test_errors_of_functions(self):
        none = all_near(SOME, 4)
        for line, error in (("near 0", BadNumber("t")), ("near 2", Beyond(3)), ("at 0 9", BadNumber("t")),
                            ("at 2 5", BadNumber("sign")), ("at 2 4", Beyond(3)), ("judge 0 9 9", BadNumber("t")),
                            ("judge 1 5 5", BadNumber("sign")), ("judge 1 4 5", BadNumber("value")),
                            ("judge 1 4 4", Beyond(3)), ("judge 4 0 0", Impossible(none)), ("look 0", BadNumber("t")),
                            ("look 2", Beyond(3)), ("look 4", Impossible(none)), ("alone 0", BadNumber("t")),
                            ("alone 6", BadNumber("t")), (f"alone {10 ** 20}", BadNumber("t"))):
            self.fails(error, answer, SOME, line)


if __name__ == "__main__":
    unittest.main()
