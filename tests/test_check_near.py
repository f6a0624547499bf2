"""Point 10 and the interface, allnear/check_near.py."""

import unittest

from allnear.check_near import shows_all, shows_nearest
from allnear.curves import Curve
from allnear.errors import BadNumber, BadReading
from allnear.least import least_curve
from allnear.near import All, Far, Nearest, all_near, nearest
from allnear.papers import Denial, Paper
from allnear.reaches import reach
from allnear.readings import Reading
from allnear.schemes import Scheme
from tests.helper import GREAT, NO_INTEGERS, NO_LISTS, Case, Odd
from tests.second import conditions, scores
from tests.some_curves import curve_of
from tests.some_readings import GREATER, NO_READINGS, NO_SCORES, SMALL

FIVE = Scheme(5, [0, 1, 2, 3, 4], 2)
SPOILT = Reading.plain(FIVE, [0, 1, 2, 0, 0])
LINE = Curve(5, [[], [0, 4], [1]])
WORDS = ((0, 0), (0, 1))
EMPTY = Reading.plain(FIVE, [None] * 5)
NO_CURVES = (None, True, 0, "5 : 1 /", LINE.rows, {}, Odd(), Curve, SPOILT)
NO_M = (*NO_INTEGERS, 0, -1, -GREAT)


class AllBelow(All):
    """Below All: no paper of this class was made by calling All."""


class NearestBelow(Nearest):
    """Likewise below Nearest."""


class FarBelow(Far):
    """Likewise below Far."""


class Like(Paper):
    """Another class of papers with the attributes of these."""

    def __init__(self, word, words, score, curve, m):
        Paper.__init__(self, word, words, curve, m)
        self.words, self.score, self.curve, self.m = words, score, curve, m


def lists(value):
    """The value with each tuple in it as a list."""
    return [lists(part) for part in value] if isinstance(value, tuple) else value


def in_x_alone(p, row, many):
    """A polynomial in x alone, so many times, as a curve."""
    curve = Curve(p, [[1]])
    for _ in range(many):
        curve = curve * Curve(p, [row])
    return curve


class RightAll(Case):
    """Right papers for shows_all."""

    def test_as_told(self):
        for reading in SMALL + GREATER:
            least, _ = reach(reading)
            for t in (least, least + 1, least + 4, GREAT):
                paper = all_near(reading, t)
                self.gives(shows_all, True, reading, t, paper)
                self.gives(shows_all, True, reading, t, All(*lists(paper.parts)))
                self.same(shows_all(value=paper, t=t, reading=reading), True)

    def test_for_another_score(self):
        for reading in SMALL:
            least, _ = reach(reading)
            told = scores(reading)
            paper = all_near(reading, least)
            for t in [*range(1, least + 4), GREAT]:
                shown = (paper.curve.span(reading.scheme.k) < paper.m * t
                         and paper.words == tuple(word for word, score in told.items() if score >= t))
                self.gives(shows_all, shown, reading, t, paper)
                self.assertTrue(t != least or shown)

    def test_other_m(self):
        # Any m of few conditions may show it, not only the least one that is enough.
        others = 0
        for reading in SMALL:
            least, first = reach(reading)
            for m in range(1, 5):
                if conditions(reading, m) <= 150:
                    curve = least_curve(reading, m)
                    for t in (least, least + 1, least + 2):
                        words = tuple(word for word, score in scores(reading).items() if score >= t)
                        shown = curve.span(reading.scheme.k) < m * t
                        self.gives(shows_all, shown, reading, t, All(words, curve, m))
                        others += shown and m != first
        self.assertGreater(others, 50)

    def test_a_score_that_is_not_enough(self):
        # All values are those of x, so a curve of span 1 passes all five offers.
        reading = Reading.plain(FIVE, [0, 1, 2, 3, 4])
        self.assertEqual(reach(reading), (3, 1))
        self.gives(shows_all, True, reading, 2, All([(0, 1)], Curve(5, [[0, 4], [1]]), 1))
        self.gives(shows_all, True, reading, 2, All([(0, 1)], curve_of(5, [(0, 1)] * 2), 2))
        self.gives(shows_all, False, reading, 1, All([(0, 1)], Curve(5, [[0, 4], [1]]), 1))
        self.gives(shows_all, False, reading, 2, All([], Curve(5, [[0, 4], [1]]), 1))
        three = Reading(FIVE, [[(0, 3)], [(1, 3)], [(2, 3)], [], []])
        self.assertEqual(reach(three)[0], 6)
        self.gives(shows_all, True, three, 4, All([(0, 1)], curve_of(5, [(0, 1)] * 3), 1))
        self.gives(shows_all, False, three, 3, All([(0, 1)], curve_of(5, [(0, 1)] * 3), 1))

    def test_curves_that_no_function_tells(self):
        for factor in ([[2]], [[1, 1]], [[1], [1]], [[0, 1], [3]], [[1, 0, 1], [], [1]]):
            curve = LINE * Curve(5, factor)
            for t in range(1, 9):
                words = [word for word, score in scores(SPOILT).items() if score >= t]
                self.gives(shows_all, curve.span(2) < t, SPOILT, t, All(words, curve, 1))
                self.gives(shows_all, 2 * curve.span(2) < 2 * t, SPOILT, t, All(words, curve * curve, 2))

    def test_without_offers(self):
        for curve in (Curve(5, [[1]]), LINE, Curve(5, [[], [1]])):
            for t in range(1, 5):
                for m in (1, 2, GREAT):
                    self.gives(shows_all, curve.span(2) < m * t, EMPTY, t, All((), curve, m))
                    self.gives(shows_all, False, EMPTY, t, All([(0, 0)], curve, m))


class WrongAll(Case):
    """Values that are no right All."""

    def wrong(self, *parts, reading=SPOILT, t=3):
        self.gives(shows_all, False, reading, t, All(*parts))

    def test_words(self):
        self.gives(shows_all, True, SPOILT, 3, All(WORDS, LINE, 1))
        for words in ((), WORDS[:1], WORDS[1:], WORDS[::-1], (*WORDS, (1, 1)), (WORDS[0], (0, 2)), (WORDS[0],) * 2,
                      (*WORDS, WORDS[1]), (WORDS[0], *WORDS), ((0,), (0, 1)), ((), (0, 1)), ((0, 0, 0), (0, 1, 0)),
                      ((0, 0), (0, 6)), ((0, 0), (5, 1)), ((0, False), (0, 1)), ((0, 0), (0, True)),
                      ((0, 0), (0, 1.0)), ((0, 0), ("0", "1")), ((0, 0), None), (0, 1), ((0, 0), ((0, 1),)), (WORDS,)):
            self.wrong(words, LINE, 1)
        for odd in (*NO_LISTS, *NO_INTEGERS):
            self.wrong(odd, LINE, 1)

    def test_curve_and_m(self):
        for odd in NO_CURVES:
            self.wrong(WORDS, odd, 1)
        for odd in (*NO_M, 2, 3, GREAT):
            self.wrong(WORDS, LINE, odd)
        for curve in (Curve(7, LINE.rows), Curve(5, [[], [0, 4], [2]]), Curve(5, [[], [1]]), Curve(5, [[0, 4], [1]]),
                      LINE * Curve(5, [[0, 1]]), LINE * Curve(5, [[], [1]]), Curve(5, [[1]])):
            self.wrong(WORDS, curve, 1)

    def test_a_curve_modulo_another_prime(self):
        for p in (2, 3, 7, 97):
            self.wrong((), Curve(p, [[1]]), 1, reading=EMPTY, t=1)
            self.gives(shows_nearest, False, EMPTY, Far(Curve(p, [[1]]), 1))
        self.gives(shows_all, True, EMPTY, 1, All((), Curve(5, [[1]]), 1))

    def test_a_curve_that_passes_once_too_few(self):
        for at in range(5):
            for weight in (2, 3):
                offers = [[(value, weight if index == at else 1)] for index, value in enumerate((0, 1, 2, 0, 0))]
                reading = Reading(FIVE, offers)
                for many in range(1, 4):
                    # Through 0, 0 the line goes twice already.
                    curve = LINE * in_x_alone(5, [-at, 1], many)
                    t = 3 + many
                    words = [word for word, score in scores(reading).items() if score >= t]
                    passes = many + (2 if at == 0 else 1)
                    self.gives(shows_all, passes >= weight, reading, t, All(words, curve, 1))

    def test_all_but_one_condition(self):
        reading = Reading(FIVE, [[(0, 3)], [(1, 1), (2, 1)], [(2, 2)], [], []])
        t, m = reach(reading)
        self.gives(shows_all, True, reading, t, all_near(reading, t))
        for index, pairs in enumerate(reading.offers):
            for value, weight in pairs:
                less = reading.without(index, value)
                if weight > 1:
                    less = less.with_offer(index, value, weight - 1)
                curve = least_curve(less, m)
                if curve.passes(FIVE.places[index], value) < m * weight:
                    words = [word for word, score in scores(reading).items() if score >= t]
                    self.wrong(words, curve, m, reading=reading, t=t)

    def test_span(self):
        for more in range(6):
            curve = LINE * in_x_alone(5, [1, 1], more)
            for t in range(1, 10):
                words = [word for word, score in scores(SPOILT).items() if score >= t]
                self.gives(shows_all, 2 + more < t, SPOILT, t, All(words, curve, 1))

    def test_power_and_rows(self):
        high = {power: Curve(5, [[]] * (power - 1) + [[0, 4], [1]]) for power in (19, 20, 21, 22)}
        for power, curve in high.items():
            self.gives(shows_all, power <= 20, SPOILT, 50, All((), curve, 1))
            self.gives(shows_all, power <= 20, EMPTY, 50, All((), curve, 1))
        for size in (58, 59, 60, 61, 62, 90):
            for curve in (Curve(5, [[0] * (size - 1) + [1]]), Curve(5, [[], [0] * (size - 1) + [2], [1]])):
                self.gives(shows_all, size <= 60, EMPTY, 200, All((), curve, 1))
            self.gives(shows_all, size <= 60, EMPTY, 1, All((), Curve(5, [[0] * (size - 1) + [1]]), 200))

    def test_other_values(self):
        parts = (WORDS, LINE, 1)
        self.gives(shows_all, True, SPOILT, 3, All(*parts))
        for odd in (None, True, 0, "all", parts, list(parts), {}, Odd(), All, Paper("all", *parts), LINE,
                    Denial("all", *parts), AllBelow(*parts), Nearest(WORDS, 3, LINE, 1), Far(LINE, 1),
                    Like("all", WORDS, 3, LINE, 1), All(None, None, None), All((), (), ()), All(parts, parts, parts)):
            self.gives(shows_all, False, SPOILT, 3, odd)

    def test_raises(self):
        for value in (All(WORDS, LINE, 1), None):
            for odd in NO_READINGS:
                self.fails(BadReading("reading"), shows_all, odd, 3, value)
                self.fails(BadReading("reading"), shows_all, odd, 0, value)
            for odd in NO_SCORES:
                self.fails(BadNumber("t"), shows_all, SPOILT, odd, value)
        self.same((str(SPOILT), LINE.rows), ("5 2 at 0 0 1 at 1 1 1 at 2 2 1 at 3 0 1 at 4 0 1", ((), (0, 4), (1,))))


class TheNearest(Case):
    """shows_nearest."""

    def test_as_told(self):
        kinds = set()
        for reading in SMALL + GREATER:
            paper = nearest(reading)
            kinds.add(type(paper))
            self.gives(shows_nearest, True, reading, paper)
            self.gives(shows_nearest, True, reading, type(paper)(*lists(paper.parts)))
            self.same(shows_nearest(value=paper, reading=reading), True)
        self.same(kinds, {Nearest, Far})

    def test_the_other_kind(self):
        for reading in SMALL + GREATER:
            paper = nearest(reading)
            other = Far(paper.curve, paper.m)
            if type(paper) is Far:
                other = Nearest((), reach(reading)[0], paper.curve, paper.m)
            self.gives(shows_nearest, False, reading, other)

    def test_the_best_words_below_the_reach(self):
        for reading in SMALL:
            paper, told = nearest(reading), scores(reading)
            most = max(told.values())
            words = [word for word, score in told.items() if score == most]
            right = most >= reach(reading)[0]
            self.gives(shows_nearest, right, reading, Nearest(words, most, paper.curve, paper.m))

    def test_other_curves_and_m(self):
        for reading in SMALL:
            paper, (t, _) = nearest(reading), reach(reading)
            for m in range(1, 5):
                if conditions(reading, m) <= 150:
                    curve = least_curve(reading, m)
                    shown = curve.span(reading.scheme.k) < m * t
                    told = Far(curve, m) if type(paper) is Far else Nearest(paper.words, paper.score, curve, m)
                    self.gives(shows_nearest, shown, reading, told)

    def test_wrong_parts(self):
        self.gives(shows_nearest, True, SPOILT, Nearest(WORDS, 3, LINE, 1))
        for words in ((), WORDS[:1], WORDS[1:], WORDS[::-1], (*WORDS, (1, 1)), ((0, False), (0, 1)), None, 3, "ab"):
            self.gives(shows_nearest, False, SPOILT, Nearest(words, 3, LINE, 1))
        for score in (*NO_INTEGERS, 2, 4, 0, -3, 3.0, GREAT):
            self.gives(shows_nearest, False, SPOILT, Nearest(WORDS, score, LINE, 1))
        for odd in NO_CURVES:
            self.gives(shows_nearest, False, SPOILT, Nearest(WORDS, 3, odd, 1))
            self.gives(shows_nearest, False, SPOILT, Far(odd, 1))
        for odd in (*NO_M, 2, GREAT):
            self.gives(shows_nearest, False, SPOILT, Nearest(WORDS, 3, LINE, odd))
        for curve in (Curve(7, LINE.rows), Curve(5, [[], [1]]), LINE * Curve(5, [[0, 1]]), Curve(5, [[1]])):
            self.gives(shows_nearest, False, SPOILT, Nearest(WORDS, 3, curve, 1))

    def test_only_the_best_words(self):
        # The reach is 3; 0 scores 4, x scores 3.
        reading = Reading(FIVE, [[(0, 1)], [(1, 1)], [(2, 1)], [(0, 1)], [(0, 2)]])
        self.same(reach(reading), (3, 4))
        paper = nearest(reading)
        near = all_near(reading, 3).words
        self.same((paper.words, paper.score, near), (((0, 0),), 4, (*WORDS, (3, 3), (4, 4))))
        for words, score in ((near, 4), (near, 3), (near[1:], 3), (near[1:], 4), (near[:1], 3), (WORDS, 4)):
            self.gives(shows_nearest, False, reading, Nearest(words, score, paper.curve, 4))

    def test_too_low_a_score(self):
        # The best word scores 2, the reach is 3: a curve that shows as much is no Nearest.
        reading = Reading.plain(FIVE, [0, 1, 4, 4, None])
        t, _ = reach(reading)
        most = max(scores(reading).values())
        self.assertLess(most, t)
        paper = nearest(reading)
        words = [word for word, score in scores(reading).items() if score == most]
        self.gives(shows_nearest, False, reading, Nearest(words, most, paper.curve, paper.m))
        self.gives(shows_nearest, False, reading, Nearest((), t, paper.curve, paper.m))
        self.gives(shows_nearest, False, reading, Nearest((), 0, paper.curve, paper.m))
        self.gives(shows_nearest, True, reading, Far(paper.curve, paper.m))

    def test_power_and_rows(self):
        for power in (20, 21):
            curve = Curve(5, [[]] * power + [[1]])
            self.gives(shows_nearest, power <= 20, EMPTY, Far(curve, power + 1))
        for size in (60, 61):
            self.gives(shows_nearest, size <= 60, EMPTY, Far(Curve(5, [[0] * (size - 1) + [1]]), size))
        self.gives(shows_nearest, False, EMPTY, Far(Curve(5, [[0, 0, 1]]), 2))
        self.gives(shows_nearest, True, EMPTY, Far(Curve(5, [[0, 0, 1]]), GREAT))

    def test_other_values(self):
        parts = (WORDS, 3, LINE, 1)
        for odd in (None, True, 0, "nearest", parts, list(parts), {}, Odd(), Nearest, Far, Paper("nearest", *parts),
                    LINE, Denial("far", LINE, 1), NearestBelow(*parts), FarBelow(LINE, 1), All(WORDS, LINE, 1),
                    Like("nearest", *parts), Nearest(None, None, None, None), Far(None, None), Far((), ())):
            self.gives(shows_nearest, False, SPOILT, odd)
            self.gives(shows_nearest, False, EMPTY, odd)

    def test_raises(self):
        for value in (Nearest(WORDS, 3, LINE, 1), None):
            for odd in NO_READINGS:
                self.fails(BadReading("reading"), shows_nearest, odd, value)


if __name__ == "__main__":
    unittest.main()
