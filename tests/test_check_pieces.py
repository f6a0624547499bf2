"""Point 8 and the interface, allnear/check_pieces.py."""

import unittest

from allnear.check_pieces import shows_pieces
from allnear.curves import Curve
from allnear.errors import BadCurve, BadNumber
from allnear.papers import Denial, Paper
from allnear.pieces import Pieces, pieces
from tests.helper import GREAT, NO_INTEGERS, NO_LISTS, Case, Odd
from tests.some_curves import NO_CURVES, NO_K, SMALL, curve_of


class Below(Pieces):
    """A class below Pieces: no paper of this class was made by calling Pieces."""


class Other(Paper):
    """Another class of papers with the same parts."""

    def __init__(self, words, times, rest):
        super().__init__("pieces", words, times, rest)
        self.words, self.times, self.rest = self.parts


def lists(value):
    """The value with each tuple in it as a list."""
    return [lists(part) for part in value] if isinstance(value, tuple) else value


class Right(Case):
    """The right paper, however it is told."""

    def test_as_told(self):
        for curve in SMALL:
            for k in range(2, 7):
                paper = pieces(curve, k)
                self.gives(shows_pieces, True, curve, k, paper)
                self.gives(shows_pieces, True, curve, k, Pieces(*lists(paper.parts)))
                self.same(shows_pieces(value=Pieces(rest=paper.rest, times=paper.times, words=paper.words),
                                       k=k, curve=curve), True)

    def test_another_k_or_curve(self):
        for curve in SMALL:
            for k in range(2, 7):
                paper = pieces(curve, k)
                for other in range(2, 7):
                    self.gives(shows_pieces, paper.parts == pieces(curve, other).parts, curve, other, paper)
                for more in [more for more in SMALL if more.p == curve.p]:
                    self.gives(shows_pieces, curve == more, more, k, paper)

    def test_another_prime(self):
        for rows, told in (([[1]], True), ([[], [1]], True), ([[0, 4], [1]], False), ([[4], [1], [1]], False)):
            self.gives(shows_pieces, told, Curve(7, rows), 2, pieces(Curve(5, rows), 2))


class Wrong(Case):
    """Papers of which one thing is not as it must be."""

    def setUp(self):
        # Modulo 5: y twice, y - x, y - (1 + x) three times, and x (y y - x).
        self.rest = ((0, 0, 4), (), (0, 1))
        self.words = ((0, 0), (0, 1), (1, 1))
        self.times = (2, 1, 3)
        told = [word for word, many in zip(self.words, self.times) for _ in range(many)]
        self.curve = curve_of(5, told, self.rest)
        self.gives(shows_pieces, True, self.curve, 2, Pieces(self.words, self.times, self.rest))

    def wrong(self, words, times, rest):
        """No right paper of the curve."""
        self.gives(shows_pieces, False, self.curve, 2, Pieces(words, times, rest))

    def test_words(self):
        one, two, three = self.words
        self.wrong((two, one, three), (1, 2, 3), self.rest)
        self.wrong((one, three, two), (2, 3, 1), self.rest)
        self.wrong((one, two), (2, 1), self.rest)
        self.wrong((one, two), self.times, self.rest)
        self.wrong((one, one, two, three), (1, 1, 1, 3), self.rest)
        self.wrong((one, two, three, three), (2, 1, 1, 2), self.rest)
        self.wrong((one, two, three, (2, 2)), (2, 1, 3, 1), self.rest)
        self.wrong((one, two, three, (2, 2)), (2, 1, 3, 0), self.rest)
        for word in ((0, 0, 0), (0,), (), (0, 5), (-5, 0), (0, False), (0, 0.0), (0, None), ("0", "0"), None, 0, "00",
                     {0: 0}, Odd(), ((0, 0),), (0, (0,))):
            self.wrong((word, two, three), self.times, self.rest)
        self.wrong((one, (False, True), three), self.times, self.rest)
        self.wrong((one, (0, 6), three), self.times, self.rest)
        for odd in (*NO_LISTS, *NO_INTEGERS):
            self.wrong(odd, self.times, self.rest)

    def test_times(self):
        for times in ((1, 1, 3), (2, 2, 3), (2, 1), (2, 1, 3, 1), (), (0, 1, 3), (2, 0, 3), (-2, 1, 3), (1, 2, 3),
                      (2, True, 3), (2, 1.0, 3), (2, "1", 3), (2, None, 3), (GREAT, 1, 3), (2, 1, 10 ** 5000),
                      (GREAT, 6 - 2 * GREAT, GREAT), (2, (1,), 3), (2, Odd(), 3)):
            self.wrong(self.words, times, self.rest)
        for odd in (*NO_LISTS, *NO_INTEGERS):
            self.wrong(self.words, odd, self.rest)

    def test_rest(self):
        rest = self.rest
        for other in (((0, 0, 4), (), (0, 2)), ((0, 0, 4), (0,), (0, 1)), ((0, 0, 4, 0), (), (0, 1)), (*rest, ()),
                      (*rest, (0,)), ((0, 0, -1), (), (0, 1)), ((0, 0, 9), (), (0, 1)), ((0, 0, 4), (), (False, True)),
                      ((0, 0, 4.0), (), (0, 1)), ((), (), ()), (), ((),), ((0,),), ((0, 0, 4), (), (0, 1), (1,)),
                      ((0, 0, 4), None, (0, 1)), ((0, 0, 4), (0, 1)), ((0, 0, "4"), (), (0, 1)), (1, 2, 3), "rest",
                      ((0, 0, 3), (), (0, 1)), self.curve, self.curve.rows, rest[:1]):
            self.wrong(self.words, self.times, other)
        for odd in (*NO_LISTS, *NO_INTEGERS):
            self.wrong(self.words, self.times, odd)

    def test_a_rest_that_has_a_piece(self):
        one, two, three = self.words
        for left, word in ((two, (0, 1)), (one, (0, 0)), (three, (1, 1))):
            words = [other for other in self.words if other != left]
            times = [many for other, many in zip(self.words, self.times) if other != left]
            held = [word] * self.times[self.words.index(left)]
            self.wrong(words, times, curve_of(5, held, self.rest).rows)
        self.wrong(self.words, (1, 1, 3), curve_of(5, [one], self.rest).rows)
        self.wrong(self.words, (2, 1, 2), curve_of(5, [three], self.rest).rows)
        self.wrong((), (), self.curve.rows)

    def test_moved_factors(self):
        self.wrong(self.words, self.times, ((0, 4), (), (1,)))
        self.wrong(self.words, self.times, ((0, 0, 0, 4), (), (0, 0, 1)))


class NoPieces(Case):
    """Values that are no Pieces, and wrong arguments."""

    def test_other_values(self):
        line = Curve(5, [[], [0, 4], [1]])
        parts = pieces(line, 2).parts
        self.gives(shows_pieces, True, line, 2, Pieces(*parts))
        for odd in (None, True, False, 0, "pieces", parts, list(parts), {}, Odd(), Pieces, Paper("pieces", *parts),
                    Denial("pieces", *parts), Below(*parts), Other(*parts), line, Pieces(None, None, None),
                    Pieces((), (), ()), Pieces(parts, parts, parts)):
            self.gives(shows_pieces, False, line, 2, odd)

    def test_deep_values(self):
        deep = ()
        for _ in range(58):
            deep = (deep,)
        for told in ((deep, (1,), ((1,),)), (((0, 0),), deep, ((1,),)), (((0, 0),), (1,), deep), (deep, deep, deep)):
            self.gives(shows_pieces, False, Curve(5, [[], [1]]), 2, Pieces(*told))

    def test_raises(self):
        curve = Curve(5, [[], [1]])
        for value in (pieces(curve, 2), None):
            for odd in NO_CURVES:
                self.fails(BadCurve("curve"), shows_pieces, odd, 2, value)
                self.fails(BadCurve("curve"), shows_pieces, odd, 7, value)
            for odd in NO_K:
                self.fails(BadNumber("k"), shows_pieces, curve, odd, value)


if __name__ == "__main__":
    unittest.main()
