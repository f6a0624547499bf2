"""Point 3 and the interface, allnear/papers.py."""

import unittest

from allnear.papers import Denial, Paper, fixed
from tests.helper import Case, Odd


class Note(Paper):
    """A class of papers below Paper, as others are to be."""


class Refusal(Denial):
    """A class of denials."""


class Fixed(Case):
    """Lists become tuples, all the way in; other values stay."""

    def test_lists(self):
        for value, told in (([], ()), ((), ()), ([1, 2], (1, 2)), ([[], [[]]], ((), ((),))),
                            ([1, (2, [3, (4, [5])])], (1, (2, (3, (4, (5,)))))), (((1, [2]),), ((1, (2,)),)),
                            ([None, True, "a", b"b"], (None, True, "a", b"b"))):
            self.gives(fixed, told, value)

    def test_others_stay(self):
        odd, table, members = Odd(), {"a": [1]}, {1}
        for value in (None, True, 0, 10 ** 5000, "", "[1]", b"", 1.5, odd, table, members, range(3)):
            self.assertIs(fixed(value), value)
        inside = fixed([odd, [table, (members,)]])
        self.assertIs(inside[0], odd)
        self.assertIs(inside[1][0], table)
        self.assertEqual(table, {"a": [1]})
        self.assertIs(inside[1][1][0], members)

    def test_deep(self):
        value, told = [7], (7,)
        for turn in range(58):
            value = [value] if turn % 2 else (value,)
            told = (told,)
        self.gives(fixed, told, value)

    def test_copied(self):
        value = [1, [2, [3]]]
        told = fixed(value)
        value[1][1].append(4)
        value.append(5)
        self.same(told, (1, (2, (3,))))
        self.same(value, [1, [2, [3, 4]], 5])


class Papers(Case):
    """Word and parts, denials, equality."""

    def test_word_and_parts(self):
        for make in (Paper, Denial, Note, Refusal):
            paper = make("note", [1, [2]], None, (3, [4]), "b")
            self.same(paper.word, "note")
            self.same(paper.parts, ((1, (2,)), None, (3, (4,)), "b"))
            self.same(make("alone").parts, ())
            self.same(make(word="named").word, "named")
            self.same(make("one", []).parts, ((),))

    def test_parts_are_copied(self):
        rows = [[1], 2]
        paper = Paper("note", rows)
        rows[0].append(5)
        self.same(paper.parts, (((1,), 2),))
        self.same(rows, [[1, 5], 2])

    def test_any_parts(self):
        odd = Odd()
        paper = Denial("note", odd, {}, 1.5, True)
        self.assertIs(paper.parts[0], odd)
        self.same(paper.parts[1:], ({}, 1.5, True))

    def test_denials_are_false(self):
        for parts in ((), (1,), ([],), (True, True)):
            for make in (Paper, Note):
                self.assertIs(bool(make("note", *parts)), True)
            for make in (Denial, Refusal):
                self.assertIs(bool(make("note", *parts)), False)

    def test_classes(self):
        self.assertTrue(issubclass(Denial, Paper))
        self.assertFalse(issubclass(Paper, Denial))
        for make in (Paper, Denial):
            self.assertEqual(make.__module__, "allnear.papers")
            self.assertIn("__eq__", vars(make))

    def test_equal(self):
        for make in (Paper, Denial, Note, Refusal):
            self.assertTrue(make("note", [1, (2, [3])], 4) == make("note", (1, [2, (3,)]), 4))
            self.assertFalse(make("note", [1, (2, [3])], 4) != make("note", (1, [2, (3,)]), 4))
            self.assertTrue(make("note") == make("note"))
            self.assertTrue(make("note", 1) == make("note", True))
            self.assertTrue(make("note", make("in", [])) == make("note", make("in", ())))

    def test_unequal(self):
        paper = Paper("note", 1, (2, 3))
        for other in (Paper("note", 1, (2, 4)), Paper("note", 1), Paper("note", 1, (2, 3), ()),
                      Paper("Note", 1, (2, 3)), Paper("note", (2, 3), 1), Paper("note", (1, (2, 3))), Paper("note")):
            self.assertFalse(paper == other)
            self.assertTrue(paper != other)
            self.assertFalse(other == paper)

    def test_classes_differ(self):
        made = [make("note", 1) for make in (Paper, Denial, Note, Refusal)]
        for one in made:
            for other in made:
                self.assertIs(one == other, one is other)
                self.assertIs(one != other, one is not other)

    def test_other_values(self):
        for other in (None, "note", ("note", (1,)), 1, True, Odd(), [Paper("note", 1)]):
            for make in (Paper, Denial):
                self.assertIs(make("note", 1) == other, False)
                self.assertIs(other == make("note", 1), False)
                self.assertIs(make("note", 1) != other, True)


if __name__ == "__main__":
    unittest.main()
