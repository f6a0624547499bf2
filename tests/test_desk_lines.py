"""Point 14 and the interface, allnear/desk_lines.py."""

import unittest

from allnear.desk_lines import ASKS, DEEDS, read_line
from allnear.errors import BadText
from allnear.readings import Reading
from allnear.schemes import Scheme
from tests import test_reading_texts, test_schemes
from tests.helper import GREAT, ODD_ITEMS, Case, changed
from tests.some_lines import ASK_WORDS, BEHIND, DEED_WORDS, NO_STRINGS, READINGS, right_lines
from tests.test_rest_texts import is_written

LINES = ("set 7 2 at 1 at 2 at 4", "set 2 2 at 1 at 0", "read 7 2 at 0 3 1 at 1 at 2 4 2 5 1",
         "read 5 3 at 0 at 4 at 1 2 3", "offer 0 3 1", "strike 12 0", "move 0 1", "move 5", "move 1 2 3 4 5 6 7",
         "stretch 3", "reading", "reach", "near 3", "nearest", "score 0 2", "score 0 0 0", "at 3 2", "judge 3 0 0",
         "look 3", "alone 4")
MORE_ITEMS = (*ODD_ITEMS, *DEED_WORDS, *ASK_WORDS, "Set", "read ", "9" * 60, "-", "10", "1e3")


def first_wrong(items):
    """The item that BadText tells for a line, None for a right one."""
    behind = BEHIND.get(items[0])
    if behind is None:
        return 0
    if behind == "text":
        look = test_schemes.first_wrong if items[0] == "set" else test_reading_texts.first_wrong
        if len(items) == 1:
            return 1
        item = look(items[1:])
        return None if item is None else item + 1
    wrong = [at for at, item in enumerate(items) if at > 0 and (
        not is_written(item) or item.startswith("-") or behind != "word" and at > behind)]
    if wrong:
        return wrong[0]
    return len(items) if len(items) - 1 < (1 if behind == "word" else behind) else None


def value_of(items):
    """What read_line returns for a right line."""
    told = " ".join(items[1:])
    if BEHIND[items[0]] == "text":
        return items[0], (Scheme if items[0] == "set" else Reading).read(told)
    numbers = tuple(int(item) for item in items[1:])
    return (items[0], numbers) if BEHIND[items[0]] == "word" else (items[0], *numbers)


class Tables(Case):
    """The first words, in the order told."""

    def test_order(self):
        self.same(DEEDS, DEED_WORDS)
        self.same(ASKS, ASK_WORDS)


class Lines(Case):
    """read_line."""

    def right(self, line):
        told, expected = read_line(line), value_of(line.split(" "))
        self.same(type(told), tuple)
        self.same([type(one) for one in told], [type(one) for one in expected])
        self.assertTrue(told == expected)
        self.assertTrue(read_line(line=line) == told)

    def test_right_lines(self):
        for line in LINES:
            self.right(line)
        for _, line in right_lines(DEED_WORDS + ASK_WORDS, 100, 900):
            self.right(line)

    def test_values(self):
        self.same(read_line("offer 0 3 1"), ("offer", 0, 3, 1))
        self.same(read_line("strike 15 96"), ("strike", 15, 96))
        self.same(read_line("stretch 0"), ("stretch", 0))
        self.same(read_line("move 7"), ("move", (7,)))
        self.same(read_line("score 0 0 " + "1" * 60), ("score", (0, 0, int("1" * 60))))
        self.same((read_line("reading"), read_line("nearest")), (("reading",), ("nearest",)))
        self.same(read_line(f"judge {10 ** 20} 0 {GREAT}"), ("judge", 10 ** 20, 0, GREAT))
        for reading in READINGS:
            word, value = read_line(f"read {reading}")
            self.assertTrue(word == "read" and value == reading)
            word, value = read_line(f"set {reading.scheme}")
            self.assertTrue(word == "set" and value == reading.scheme)

    def test_changed(self):
        for line in LINES:
            for items in changed(line.split(" "), MORE_ITEMS):
                told = " ".join(items)
                item = first_wrong(told.split(" "))
                if item is None:
                    self.right(told)
                else:
                    self.fails(BadText(0, item), read_line, told)

    def test_told_items(self):
        full = " ".join(f"{value} 1" for value in range(24))
        wide = " ".join(f"at {place}" for place in range(16))
        for line, item in (("", 0), (" ", 0), (" reach", 0), ("Reach", 0), ("reach ", 1), ("reach 3", 1),
                           ("reading 5", 1), ("nearest 3", 1), ("near", 1), ("near ", 1), ("near 3 ", 2),
                           ("near 3 4", 2), ("near -1", 1), ("near 03", 1), ("near +3", 1), ("near 3\n", 1),
                           ("near  3", 1), ("near " + "9" * 61, 1), ("look", 1), ("look 3 3", 2), ("alone", 1),
                           ("alone x", 1), ("at", 1), ("at 3", 2), ("at 3 2 1", 3), ("judge 3 0", 3),
                           ("judge 3 0 0 0", 4), ("judge 3 -1 x", 2), ("offer 0 3", 3), ("offer", 1),
                           ("offer 0 3 1 1", 4), ("offer 0  1", 2), ("strike 0", 2), ("strike 0 0 0", 3),
                           ("stretch", 1), ("stretch -1", 1), ("stretch 2 2", 2), ("move", 1), ("move ", 1),
                           ("move 0 ", 2), ("move 0 -1", 2), ("move 0 1 x 2", 3), ("score", 1), ("score 0 1 02", 3),
                           ("score 1 / 2", 2), ("set", 1), ("set ", 1), ("set 7", 2), ("set 7 2", 3),
                           ("set 7 2 at 0", 5), ("set 7 2 at 0 at", 6), ("set 7 2 at 0 at 0", 6),
                           ("set 7 2 at 0 3 1 at 1", 5), ("set  7 2", 1), ("set 6 2 at 0", 1), ("set 7 9 at 0 at 1", 2),
                           (f"set 97 2 {wide} at 16", 35), ("set 7 2 at 0 at 1 ", 7), ("read", 1), ("read 7 2 at 0", 5),
                           ("read 7 2 at 0 3", 6), ("read 7 2 at 0 3 1 3 1 at 1", 7), ("read read", 1),
                           ("set set 7", 1), (f"read 97 2 at 0 {full} 24 1 at 1", 53), (f"read 97 2 {wide} at 16", 35),
                           ("undo", 0), ("redo", 0), ("far", 0), ("-", 0), ("5 2 at 0 at 1", 0), ("reach\n", 0),
                           ("offer\t0 3 1", 0)):
            self.fails(BadText(0, item), read_line, line)

    def test_no_strings(self):
        for odd in NO_STRINGS:
            self.fails(BadText(0, 0), read_line, odd)

    def test_a_long_line(self):
        self.same(read_line("move" + " 1" * 40000), ("move", (1,) * 40000))
        self.fails(BadText(0, 40001), read_line, "score" + " 1" * 40000 + " ")
        self.fails(BadText(0, 2), read_line, "near" + " 1" * 40000)


if __name__ == "__main__":
    unittest.main()
