"""Point 8 and the interface, allnear/pieces.py."""

import itertools
import unittest

from allnear.curves import Curve
from allnear.errors import BadCurve, BadNumber, BadPoly, Misfit
from allnear.papers import Denial, Paper
from allnear.pieces import Pieces, is_piece, pieces
from allnear.polys import Poly
from tests.helper import Case, Numbers, Odd
from tests.second import along, pieces_of, quotient, terms_of
from tests.some_curves import NO_CURVES, NO_K, SMALL, curve_of, some_products

NO_POLYS = (None, True, 0, "5 : 1", [1], (1, 2), {}, Odd(), Poly, Curve(5, [[1]]))


class Papers(Case):
    """The paper Pieces, made of any values."""

    def test_parts(self):
        paper = Pieces([[1, [2]], "a"], None, {"b": 1})
        self.same(paper.word, "pieces")
        self.same(paper.parts, (((1, (2,)), "a"), None, {"b": 1}))
        self.same((paper.words, paper.times, paper.rest), paper.parts)
        self.assertTrue(paper)
        self.assertTrue(isinstance(paper, Paper) and not isinstance(paper, Denial))
        named = Pieces(rest=[[1]], words=[], times=[2])
        self.same(named.parts, ((), (2,), ((1,),)))

    def test_copied(self):
        words, times = [[0, 1]], [1]
        paper = Pieces(words, times, words)
        words[0].append(2)
        times.append(3)
        self.same(paper.parts, (((0, 1),), (1,), ((0, 1),)))

    def test_equality(self):
        one = Pieces([(0, 1)], [1], [[1]])
        self.assertTrue(one == Pieces(((0, 1),), (1,), ((1,),)))
        for other in (Pieces([(0, 2)], [1], [[1]]), Pieces([(0, 1)], [2], [[1]]), Pieces([(0, 1)], [1], [[2]]),
                      Paper("pieces", [(0, 1)], [1], [[1]]), one.parts, None, 3):
            self.assertFalse(one == other)
            self.assertTrue(one != other)


class All(Case):
    """pieces."""

    def test_trial_of_all_words(self):
        for curve in SMALL:
            for k in range(2, 7):
                if curve.p ** k <= 729:
                    paper = pieces(curve, k)
                    self.assertIs(type(paper), Pieces)
                    self.same(paper.parts, pieces_of(curve.p, k, terms_of(curve)))

    def test_any_curves(self):
        for p, k in ((2, 2), (2, 5), (3, 2), (3, 3), (5, 2)):
            numbers = Numbers(p * k)
            for size in range(40):
                sizes = [numbers.below(5) for _ in range(1 + size % 4)]
                curve = Curve(p, [*[numbers.some(many, p) for many in sizes], numbers.some(2, p) + [1]])
                self.same(pieces(curve, k).parts, pieces_of(p, k, terms_of(curve)))

    def test_all_small_curves(self):
        for signs in itertools.product(range(2), repeat=9):
            if any(signs):
                curve = Curve(2, [signs[:3], signs[3:6], signs[6:]])
                for k in (2, 3):
                    self.same(pieces(curve, k).parts, pieces_of(2, k, terms_of(curve)))

    def test_products(self):
        for p, k in ((13, 3), (53, 4), (97, 2), (97, 5), (97, 6), (3, 6)):
            numbers = Numbers(k)
            words = {tuple(numbers.some(k, p)): 1 + at for at in range(4)}
            words[(0,) * k] = 2
            # y y y + x x + x has no piece: its degree would be 2 taken by 3.
            rest = ((0, 1, 1), (), (), (1,))
            curve = curve_of(p, [word for word, many in words.items() for _ in range(many)], rest)
            told = sorted(words.items())
            self.same(pieces(curve, k).parts, (tuple(word for word, _ in told), tuple(many for _, many in told), rest))

    def test_with_each_k(self):
        words = [(3, 0, 0, 0, 0, 0), (1, 2, 0, 0, 0, 0), (4, 0, 6, 0, 0, 0), (0, 0, 0, 5, 0, 0), (2, 1, 1, 1, 1, 0),
                 (0, 0, 0, 0, 0, 1)]
        curve = curve_of(7, words)
        for k in range(2, 7):
            told = sorted(word[:k] for word in words if not any(word[k:]))
            paper = pieces(curve, k)
            self.same((paper.words, paper.times), (tuple(told), (1,) * len(told)))
            others = [word for word in words if any(word[k:])]
            self.same(paper.rest, curve_of(7, others).rows)

    def test_factors_in_x(self):
        for p in (2, 5, 97):
            for row in ([1], [0, 1], [0, 0, 0, 1], [1, 1], [0, 1, 1], [p - 1, 0, 1]):
                alone, with_it = curve_of(p, [(1, 1)]), curve_of(p, [(1, 1)], [row])
                self.same(pieces(with_it, 2).words, pieces(alone, 2).words)
                self.same(pieces(with_it, 2).rest, Curve(p, [row]).rows)
                self.same(pieces(Curve(p, [row]), 3).parts, ((), (), Curve(p, [row]).rows))

    def test_without_a_piece(self):
        for curve in (Curve(7, [[0, 0, -1], [1]]), Curve(3, [[2, 1]]), Curve(5, [[1]]), Curve(5, [[2], [], [1]]),
                      Curve(5, [[0, -1], [], [1]]), Curve(7, [[1], [0, 1]]), Curve(2, [[0, 1, 0, 1], [0, 1], [1]])):
            self.same(pieces(curve, 2).parts, ((), (), curve.rows))

    def test_the_zero_polynomial(self):
        for many in range(1, 6):
            curve = Curve(5, [[]] * many + [[1, 2], [0, 1]])
            self.same(pieces(curve, 4).parts, (((0, 0, 0, 0),), (many,), ((1, 2), (0, 1))))
        self.same(pieces(Curve(2, [[], [1]]), 6).parts, (((0,) * 6,), (1,), ((1,),)))

    def test_any_order(self):
        for curve in some_products(5, 2, 77):
            paper = pieces(curve, 2)
            words = [word for word, many in zip(paper.words, paper.times) for _ in range(many)]
            for seed in range(4):
                left = curve
                for word in Numbers(seed).pick(words, len(words)):
                    left = left.divided(Poly(5, word))
                self.same(left.rows, paper.rest)

    def test_raises(self):
        curve = Curve(5, [[1], [1]])
        for odd in NO_CURVES:
            self.fails(BadCurve("curve"), pieces, odd, 2)
            self.fails(BadCurve("curve"), pieces, odd, 1)
        for odd in NO_K:
            self.fails(BadNumber("k"), pieces, curve, odd)
            self.fails(BadNumber("k"), pieces, k=odd, curve=curve)
        self.same(curve.rows, ((1,), (1,)))


class One(Case):
    """is_piece."""

    def test_all_words(self):
        for curve in SMALL:
            if curve.p ** 2 < 50:
                for word in itertools.product(range(curve.p), repeat=2):
                    divides = quotient(curve.p, terms_of(curve), word) is not None
                    self.gives(is_piece, divides, curve, Poly(curve.p, word))
                    self.same(not along(curve.p, terms_of(curve), word), divides)

    def test_any_degree(self):
        for p in (2, 13, 97):
            numbers = Numbers(p)
            for degree in (0, 1, 5, 6, 7, 40):
                word = numbers.some(degree, p) + [1]
                curve = curve_of(p, [word, word, [0, 1]], [[1, 1], [], [1]])
                self.gives(is_piece, True, curve, Poly(p, word))
                self.gives(is_piece, False, curve * Curve(p, [[1, 1]]), Poly(p, word) + Poly(p, [0] * 50 + [1]))
        curve = Curve(3, [[0] * 200 + [2], [1]])
        self.gives(is_piece, True, curve, Poly(3, [0] * 200 + [1]))
        self.gives(is_piece, False, curve, Poly(3, [0] * 199 + [1]))
        self.gives(is_piece, False, Curve(3, [[1, 1]]), Poly(3))
        self.same(is_piece(poly=Poly(5), curve=Curve(5, [[], [3]])), True)

    def test_raises(self):
        curve = Curve(5, [[1], [1]])
        for odd in NO_CURVES:
            self.fails(BadCurve("curve"), is_piece, odd, Poly(5))
            self.fails(BadCurve("curve"), is_piece, odd, None)
        for odd in NO_POLYS:
            self.fails(BadPoly("poly"), is_piece, curve, odd)
        for p in (2, 3, 7, 97):
            self.fails(Misfit("p"), is_piece, curve, Poly(p))
            self.fails(Misfit("p"), is_piece, poly=Poly(p, [1, 1]), curve=curve)


if __name__ == "__main__":
    unittest.main()
