"""Point 14 and the interface, allnear/desk.py."""

import unittest

from allnear.desk import Desk
from allnear.errors import BadPoly, BadReading, BadText, Beyond, NearError, NoOffer, Nothing, NoPlace, Twice
from allnear.readings import Reading
from tests.helper import Case, Numbers, fields_of
from tests.some_lines import (
    ASK_WORDS, DEED_WORDS, NO_STRINGS, READINGS, answered_by_row, done_by_row, some_line, word_by_row,
)
from tests.some_readings import NO_READINGS
from tests.test_desk_deeds import FIVE, SOME

BEGIN = "set 5 2 at 0 at 1 at 2 at 3 at 4"


class Book:
    """An own book of states: all readings of the story, one behind another, and those taken back."""

    def __init__(self, reading):
        self.states = [(None, reading)]
        self.back = []

    def reading(self):
        return self.states[-1][1]

    def story(self):
        return tuple(line for line, _ in self.states[1:])

    def tell(self, line):
        """The answer, or the error, of a line that can be read."""
        items = line.split(" ")
        if self.reading() is None and items[0] not in ("set", "read"):
            raise Nothing()
        if items[0] in ("move", "score") and word_by_row(self.reading(), items) is None:
            raise BadPoly("word")
        if items[0] in ASK_WORDS:
            return answered_by_row(self.reading(), line)
        after, said = done_by_row(self.reading(), line)
        self.states.append((line, after))
        self.back = []
        return said

    def undo(self):
        if len(self.states) == 1:
            raise Nothing()
        self.back.append(self.states.pop())
        return self.back[-1][0]

    def redo(self):
        if not self.back:
            raise Nothing()
        self.states.append(self.back.pop())
        return self.states[-1][0]


def outcome(call, *told):
    """What a call returns, or the error that it raises with its fields."""
    try:
        return call(*told)
    except NearError as error:
        return type(error), fields_of(error)


class Desks(Case):
    """Desks and books."""

    def agrees(self, desk, book):
        self.same(desk.story, book.story())
        self.assertTrue(desk.reading == book.reading())
        self.assertIs(type(desk.reading), type(book.reading()))

    def draw(self, begun, seed, turns):
        """A desk and a book, told the same."""
        numbers, desk, book = Numbers(seed), Desk(begun), Book(begun)
        kinds = {}
        for _ in range(turns):
            way = numbers.below(10)
            if way < 3:
                name, told = ("undo", "redo", "undo")[way], ()
            elif way == 3 and numbers.below(2):
                name, told = "tell", (("near", "offer 0 1", "x", "", "stretch -1", "set 7", None)[numbers.below(7)],)
                self.fails(BadText(0, outcome(desk.tell, *told)[1]["item"][1]), desk.tell, *told)
                self.agrees(desk, book)
                continue
            else:
                words = DEED_WORDS + DEED_WORDS[2:] * 3 + ASK_WORDS
                word = words[numbers.below(len(words))]
                name, told = "tell", (some_line(word, numbers, book.reading() or SOME),)
            expected = outcome(getattr(book, name), *told)
            self.same(outcome(getattr(desk, name), *told), expected)
            self.agrees(desk, book)
            kinds[name, isinstance(expected, tuple)] = True
        return kinds

    def test_drawn_lines(self):
        kinds = {}
        for seed, begun in enumerate([None, None, SOME, READINGS[3], READINGS[8], READINGS[20],
                                      Reading(FIVE, [[]] * 5)] * 2):
            kinds.update(self.draw(begun, 130 + seed, 150))
        self.same(len(kinds), 6)

    def test_begun(self):
        for told in ((), (None,)):
            desk = Desk(*told)
            self.same((desk.reading, desk.story), (None, ()))
            self.fails(Nothing(), desk.undo)
            self.fails(Nothing(), desk.redo)
            self.fails(Nothing(), desk.tell, "reach")
            self.fails(Nothing(), desk.tell, "stretch 1")
        desk = Desk(reading=SOME)
        self.assertTrue(desk.reading == SOME)
        self.same(desk.story, ())
        self.fails(Nothing(), desk.undo)
        self.same(desk.tell("reach"), "3 1")
        self.same(desk.tell(line="stretch 2"), "5")
        self.same((desk.undo(), str(desk.reading)), ("stretch 2", str(SOME)))

    def test_no_readings(self):
        for odd in NO_READINGS:
            if odd is not None:
                self.fails(BadReading("reading"), Desk, odd)
        self.fails(BadReading("reading"), Desk, reading=Desk())

    def test_listed(self):
        for name in ("tell", "undo", "redo", "__init__"):
            self.assertIn(name, vars(Desk))

    def test_undo_to_none(self):
        desk = Desk()
        self.same([desk.tell(BEGIN), desk.tell("offer 0 0 1")], ["5", "1"])
        self.same([desk.undo(), desk.undo(), desk.reading, desk.story], ["offer 0 0 1", BEGIN, None, ()])
        self.fails(Nothing(), desk.undo)
        self.fails(Nothing(), desk.tell, "reach")
        self.same([desk.redo(), desk.redo()], [BEGIN, "offer 0 0 1"])
        self.fails(Nothing(), desk.redo)
        self.same((desk.story, desk.tell("score 0 0")), ((BEGIN, "offer 0 0 1"), "1"))

    def test_what_is_forgotten(self):
        desk = Desk(SOME)
        for line in ("stretch 2", "stretch 3", "strike 0 0"):
            desk.tell(line)
        self.same((desk.undo(), desk.undo()), ("strike 0 0", "stretch 3"))
        # Neither what is asked nor what is refused forgets them.
        self.same(desk.tell("reach"), "3 1")
        self.fails(BadText(0, 1), desk.tell, "reach 1")
        self.fails(NoPlace(9), desk.tell, "offer 9 0 1")
        self.fails(BadPoly("word"), desk.tell, "move 1")
        self.fails(Beyond(3), desk.tell, "near 2")
        self.same(desk.redo(), "stretch 3")
        self.same(desk.undo(), "stretch 3")
        self.same(desk.tell("stretch 1"), "5")
        self.fails(Nothing(), desk.redo)
        self.same(desk.story, ("stretch 2", "stretch 1"))
        self.assertTrue(desk.reading == SOME.stretched(2))

    def test_raising_changes_nothing(self):
        desk = Desk(SOME)
        desk.tell("strike 0 0")
        desk.tell("strike 1 1")
        desk.undo()
        for line, error in (("strike 0 0", NoOffer(0)), ("offer 1 1 1", Twice(1)), ("move 0 0 0", BadPoly("word")),
                            ("set 5 2 at 0", BadText(0, 5)), ("read 5 2 at 0 at 0", BadText(0, 6)),
                            ("undo", BadText(0, 0)), ("redo", BadText(0, 0))):
            self.fails(error, desk.tell, line)
            self.same((desk.story, str(desk.reading)), (("strike 0 0",), str(SOME.without(0, 0))))
        for odd in NO_STRINGS:
            self.fails(BadText(0, 0), desk.tell, odd)
        self.same((desk.redo(), desk.story), ("strike 1 1", ("strike 0 0", "strike 1 1")))

    def test_two_desks(self):
        one, two = Desk(SOME), Desk(SOME)
        one.tell("stretch 2")
        self.same((two.story, str(two.reading), one.story), ((), str(SOME), ("stretch 2",)))
        before = one.story
        one.tell("stretch 3")
        one.undo()
        one.undo()
        self.same(before, ("stretch 2",))

    def test_a_deed_that_leaves_all_as_it_is(self):
        desk = Desk(SOME)
        desk.tell("stretch 1")
        desk.tell(f"read {SOME}")
        self.same(desk.story, ("stretch 1", f"read {SOME}"))
        self.same((desk.undo(), desk.undo()), (f"read {SOME}", "stretch 1"))


if __name__ == "__main__":
    unittest.main()
