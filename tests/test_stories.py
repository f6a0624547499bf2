"""Point 14 and the interface, allnear/stories.py."""

import unittest

from allnear.desk import Desk
from allnear.errors import BadDesk, BadLine, BadPoly, BadText, Beyond, NearError, NoOffer, Nothing, Twice
from allnear.stories import play, told
from tests.helper import NO_LISTS, Case, Numbers
from tests.some_lines import ASK_WORDS, DEED_WORDS, READINGS, some_line
from tests.some_readings import two_words
from tests.test_desk import BEGIN

LINES = [BEGIN, "offer 0 0 1", "offer 1 1 1", "reach", "strike 0 0", "score 0 1"]


def drawn_lines(seed, many):
    """Lines that can be told one behind another, some with one that cannot."""
    numbers, desk = Numbers(seed), Desk()
    lines = [f"read {READINGS[numbers.below(len(READINGS))]}"]
    desk.tell(lines[0])
    while len(lines) < many:
        words = DEED_WORDS[2:] * 3 + DEED_WORDS[:2] + ASK_WORDS
        line = some_line(words[numbers.below(len(words))], numbers, desk.reading)
        try:
            desk.tell(line)
        except NearError:
            if numbers.below(12):
                continue
        lines.append(line)
    return lines


class Stories(Case):
    """play and told."""

    def by_desk(self, lines):
        """What a desk answers line by line, and the desk; or the index and the error of the first that raises."""
        desk, answers = Desk(), []
        for at, line in enumerate(lines):
            try:
                answers.append(desk.tell(line))
            except NearError as error:
                return None, BadLine(at, error)
        return tuple(answers), desk

    def agree(self, lines):
        kept = list(lines)
        answers, desk = self.by_desk(lines)
        for given in (list(lines), tuple(lines)):
            if answers is None:
                self.fails(desk, play, given)
                self.fails(desk, told, given)
                continue
            self.gives(play, answers, given)
            self.assertIs(type(told(given)), Desk)
            self.same(told(given).story, desk.story)
            self.assertTrue(told(given).reading == desk.reading)
        self.same(list(lines), kept)
        return answers is None

    def test_against_a_desk(self):
        kinds = [self.agree(drawn_lines(seed, 3 + seed)) for seed in range(40)]
        self.assertTrue(any(kinds) and not all(kinds))

    def test_no_line(self):
        self.gives(play, (), [])
        self.gives(play, (), ())
        self.same((told([]).reading, told(()).story), (None, ()))

    def test_told_lines(self):
        self.gives(play, ("5", "1", "2", "2 1", "1", "1"), LINES)
        self.same(play(lines=tuple(LINES)), play(LINES))
        desk = told(lines=LINES)
        self.same(desk.story, (BEGIN, "offer 0 0 1", "offer 1 1 1", "strike 0 0"))
        self.same(str(desk.reading), "5 2 at 0 at 1 1 1 at 2 at 3 at 4")
        self.same((desk.undo(), desk.tell("score 0 0"), desk.redo()), ("strike 0 0", "1", "strike 0 0"))
        self.fails(Nothing(), desk.redo)

    def test_several_stories(self):
        told(LINES).tell("stretch 2")
        self.same(str(told(LINES).reading), "5 2 at 0 at 1 1 1 at 2 at 3 at 4")

    def test_the_first_that_raises(self):
        for lines, at, error in ((["reach"], 0, Nothing()), (["x"], 0, BadText(0, 0)),
                                 ([BEGIN, "near"], 1, BadText(0, 1)), ([BEGIN, "near 0 0"], 1, BadText(0, 2)),
                                 ([*LINES, "strike 0 0"], 6, NoOffer(0)), ([*LINES, "offer 1 1 1", "x"], 6, Twice(1)),
                                 ([BEGIN, "", "x"], 1, BadText(0, 0)),
                                 ([*LINES, "move 1", "near 0"], 6, BadPoly("word")),
                                 ([BEGIN, "set 5 2"], 1, BadText(0, 3)), (["reading", BEGIN], 0, Nothing()),
                                 (["undo"], 0, BadText(0, 0)),
                                 ([f"read {two_words(7, 7, 2, 1)}", "reach", "near 1"], 2, Beyond(5))):
            if type(error) is Beyond:
                error = Beyond(int(play(lines[:2])[1].split(" ")[0]))
            for call in (play, told):
                self.fails(BadLine(at, error), call, lines)
                self.fails(BadLine(at, error), call, tuple(lines))

    def test_no_lists(self):
        for odd in (*NO_LISTS, "reach", BEGIN, Desk(), [None], [BEGIN, 3], [3, BEGIN], ["x", None], [b"reach"],
                    [[BEGIN]], (BEGIN, True), [BEGIN, ("reach",)]):
            for call in (play, told):
                self.fails(BadDesk("lines"), call, odd)


if __name__ == "__main__":
    unittest.main()
