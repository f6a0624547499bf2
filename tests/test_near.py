"""Point 10 and the interface, allnear/near.py."""

import unittest

from allnear.curves import Curve
from allnear.errors import BadNumber, BadReading, Beyond
from allnear.least import least_curve
from allnear.near import All, Far, Nearest, all_near, nearest
from allnear.papers import Denial, Paper
from allnear.polys import Poly
from allnear.reaches import enough, reach
from allnear.readings import Reading
from allnear.schemes import Scheme
from tests.helper import GREAT, Case
from tests.second import scores
from tests.some_readings import GREATER, NO_READINGS, NO_SCORES, SMALL, spoilt_word, two_words


def near_by_trial(reading, t):
    """All words that score t or more, by trial of all words."""
    return tuple(word for word, score in scores(reading).items() if score >= t)


def state(reading):
    """All that is told of a reading."""
    return (str(reading), reading.points, reading.offers)


class Papers(Case):
    """The papers, made of any values."""

    def test_parts(self):
        curve = Curve(5, [[1]])
        for make, word, parts, told in (
                (All, "all", ([[1, [2]]], "x", None), (((1, (2,)),), "x", None)),
                (Far, "far", ([None], {"a": [1]}), ((None,), {"a": [1]})),
                (Nearest, "nearest", ([(0, 1)], [3], curve, True), (((0, 1),), (3,), curve, True))):
            paper = make(*parts)
            self.same((paper.word, paper.parts), (word, told))
            self.assertTrue(isinstance(paper, Paper))
            self.same((isinstance(paper, Denial), bool(paper)), (make is Far, make is not Far))
            self.assertTrue(paper == make(*told))
            self.assertFalse(paper == Paper(word, *parts) or paper == Denial(word, *parts) or paper == parts)

    def test_copied(self):
        words, m = [[0, 0], [0, 1]], [1]
        all_told, best, far = All(words, None, m), Nearest(words, m, None, 1), Far(words, m)
        words[0].append(2)
        words.append([])
        m.clear()
        self.same((all_told.words, all_told.m), (((0, 0), (0, 1)), (1,)))
        self.same(best.parts, (((0, 0), (0, 1)), (1,), None, 1))
        self.same(far.parts, (((0, 0), (0, 1)), (1,)))

    def test_by_name(self):
        one = All(m=1, words=[[0, 0]], curve=None)
        self.same((one.words, one.curve, one.m), (((0, 0),), None, 1))
        two = Nearest(curve="c", m=2, score=3, words=[])
        self.same((two.words, two.score, two.curve, two.m), ((), 3, "c", 2))
        far = Far(m=[4], curve=5)
        self.same((far.curve, far.m, far.parts), (5, (4,), (5, (4,))))

    def test_equality(self):
        curve = Curve(5, [[1]])
        self.assertTrue(All([(0, 1)], curve, 1) == All([[0, 1]], Curve(5, [[6]]), 1))
        self.assertTrue(All([(0, 1)], curve, 1) != All([[0, 1]], Curve(5, [[2]]), 1))
        self.assertTrue(Far(curve, 1) == Far(Curve(5, [[1]]), 1))
        self.assertTrue(Far(curve, 1) != Far(curve, 2))
        self.assertTrue(Nearest((), 1, curve, 1) != All((), curve, 1))


class AllNear(Case):
    """all_near."""

    def shown(self, reading, t, paper):
        """The paper has the m and the curve that are told, and these show it."""
        self.assertIs(type(paper), All)
        self.same(paper.m, enough(reading, t))
        self.assertTrue(paper.curve == least_curve(reading, paper.m))
        self.assertLess(paper.curve.span(reading.scheme.k), paper.m * t)
        for a, b, weight in reading.points:
            self.assertGreaterEqual(paper.curve.passes(a, b), paper.m * weight)

    def test_trial_of_all_words(self):
        many_words = set()
        for reading in SMALL:
            ahead = state(reading)
            least, _ = reach(reading)
            most = max(scores(reading).values())
            for t in [*range(least, max(least, most) + 3), 100, GREAT]:
                paper = all_near(reading, t)
                self.same(paper.words, near_by_trial(reading, t))
                self.shown(reading, t, paper)
                self.assertTrue(paper == all_near(t=t, reading=Reading.read(str(reading))))
                many_words.add(min(2, len(paper.words)))
            self.same(state(reading), ahead)
        # Readings with no, one and several near words are among them.
        self.same(many_words, {0, 1, 2})

    def test_beyond(self):
        for reading in SMALL + GREATER:
            least, _ = reach(reading)
            for t in range(1, least):
                self.fails(Beyond(least), all_near, reading, t)

    def test_greater(self):
        for reading in GREATER:
            p = reading.scheme.p
            least, _ = reach(reading)
            for t in (least, least + 1, least + 5, 10 ** 6):
                paper = all_near(reading, t)
                self.shown(reading, t, paper)
                told = [reading.score(Poly(p, word)) for word in paper.words]
                self.assertTrue(all(score >= t for score in told))
                self.same(list(paper.words), sorted(paper.words))
                self.assertTrue(all(type(word) is tuple and len(word) == reading.scheme.k for word in paper.words))

    def test_spoilt_words_are_told(self):
        found = 0
        for k in range(2, 7):
            for wrong in range(8):
                reading = spoilt_word(97, 16, k, wrong, wrong + k)
                right = spoilt_word(97, 16, k, 0, wrong + k)
                row = [pairs[0][0] for pairs in right.offers]
                word = next(iter(nearest(right).words))
                self.same([sum(one * place ** at for at, one in enumerate(word)) % 97
                           for place in right.scheme.places], row)
                least, _ = reach(reading)
                if least <= 16 - wrong:
                    self.assertIn(word, all_near(reading, least).words)
                    found += 1
        self.assertGreater(found, 20)

    def test_several_words(self):
        told = [len(all_near(reading, reach(reading)[0]).words) for reading in
                (two_words(7, 7, 2, 1), two_words(53, 16, 2, 2), two_words(97, 16, 3, 3))]
        self.same(told, [3, 2, 2])

    def test_lost_places_are_as_if_not_there(self):
        for lost in range(3):
            reading = two_words(13, 12, 2, 4, lost)
            scheme = Scheme(13, reading.scheme.places[lost:], 2)
            self.assertTrue(all_near(reading, 9) == all_near(Reading(scheme, reading.offers[lost:]), 9))

    def test_raises(self):
        for odd in NO_READINGS:
            self.fails(BadReading("reading"), all_near, odd, 3)
            self.fails(BadReading("reading"), all_near, odd, 0)
        for odd in NO_SCORES:
            self.fails(BadNumber("t"), all_near, SMALL[0], odd)
            self.fails(BadNumber("t"), all_near, t=odd, reading=GREATER[0])


class TheNearest(Case):
    """nearest."""

    def test_trial_of_all_words(self):
        kinds = set()
        for reading in SMALL:
            ahead = state(reading)
            least, m = reach(reading)
            told = scores(reading)
            most = max(told.values())
            paper = nearest(reading)
            self.same(paper.m, m)
            self.assertTrue(paper.curve == least_curve(reading, m))
            if most < least:
                self.assertIs(type(paper), Far)
                self.assertFalse(paper)
                self.same((paper.word, len(paper.parts)), ("far", 2))
            else:
                self.assertIs(type(paper), Nearest)
                self.assertTrue(paper)
                self.same(paper.score, most)
                self.same(paper.words, tuple(word for word, score in told.items() if score == most))
            kinds.add((type(paper), min(2, len(getattr(paper, "words", ())))))
            self.assertTrue(paper == nearest(reading))
            self.same(state(reading), ahead)
        self.same(kinds, {(Far, 0), (Nearest, 1), (Nearest, 2)})

    def test_only_the_best_words(self):
        scheme = Scheme(7, [0, 1, 2, 3, 4, 5, 6], 2)
        # x is right at 0 and six times more, 0 at 0, 5 and 6: of both only x is told.
        reading = Reading(scheme, [[(0, 1)], [(1, 2)], [(2, 2)], [(3, 2)], [(4, 1)], [(0, 2), (5, 1)],
                                   [(0, 2), (6, 1)]])
        told = scores(reading)
        paper = nearest(reading)
        self.same((paper.words, paper.score), (((0, 1),), 10))
        self.same((told[0, 1], told[0, 0]), (10, 5))

    def test_far(self):
        for reading in (Reading(SMALL[8].scheme, [[]] * 7), Reading(SMALL[8].scheme, [[(1, 3)]] + [[]] * 6)):
            self.assertIs(type(nearest(reading)), Far)

    def test_raises(self):
        for odd in NO_READINGS:
            self.fails(BadReading("reading"), nearest, odd)


if __name__ == "__main__":
    unittest.main()
