"""Point 11 and the interface, allnear/judge.py and allnear/check_judge.py."""

import itertools
import unittest

from allnear.check_judge import shows_alone
from allnear.errors import BadNumber, BadScheme
from allnear.judge import Alone, Twins, alone
from allnear.near import Far
from allnear.papers import Denial, Paper
from allnear.readings import Reading
from allnear.schemes import Scheme
from tests.helper import GREAT, NO_INTEGERS, NO_LISTS, Case, Numbers, Odd
from tests.second import value

FIVE = Scheme(5, [0, 1, 2, 3, 4], 2)
NO_SCHEMES = (None, True, 3, "5 2 at 0 at 1", (5, (0, 1), 2), [], {}, Odd(), Scheme, Reading.plain(FIVE, [None] * 5))
SCHEMES = [Scheme(p, Numbers(p + n).pick(range(p), n), k) for p, n in (
    (2, 2), (3, 2), (3, 3), (5, 2), (5, 3), (5, 4), (5, 5), (7, 6), (7, 7), (13, 12), (97, 15), (97, 16), (53, 9))
    for k in range(2, min(6, n) + 1)]


def right_places(scheme, word, row):
    """How many places have the word's value, counted one by one."""
    return sum(value(scheme.p, word, place) == sign for place, sign in zip(scheme.places, row))


def no_scores(scheme):
    """What is no t for this scheme."""
    return (*NO_INTEGERS, 0, -1, len(scheme) + 1, GREAT, -GREAT)


def twins_by_trial(scheme, t):
    """Whether some row has two words that are right at t places, by trial of all words and rows."""
    words = list(itertools.product(range(scheme.p), repeat=scheme.k))
    rows = [tuple(value(scheme.p, word, place) for place in scheme.places) for word in words]
    for row in itertools.product(range(scheme.p), repeat=len(scheme)):
        if sum(sum(map(lambda one, other: one == other, row, told)) >= t for told in rows) > 1:
            return True
    return False


class AloneBelow(Alone):
    """Below Alone: no paper of this class was made by calling Alone."""


class TwinsBelow(Twins):
    """Likewise below Twins."""


class Papers(Case):
    """The papers, made of any values."""

    def test_parts(self):
        self.same((Alone().word, Alone().parts), ("alone", ()))
        paper = Twins([1, [2]], None, {"a": [1]})
        self.same((paper.word, paper.parts), ("twins", ((1, (2,)), None, {"a": [1]})))
        self.same((paper.one, paper.other, paper.row), paper.parts)
        named = Twins(row=[3], other=2, one=[[1]])
        self.same(named.parts, (((1,),), 2, (3,)))

    def test_kinds(self):
        self.assertTrue(Alone())
        self.assertFalse(Twins((), (), ()))
        self.assertTrue(isinstance(Alone(), Paper) and not isinstance(Alone(), Denial))
        self.assertTrue(isinstance(Twins(1, 2, 3), Denial))
        self.assertTrue(Alone() == Alone() and Twins([1], 2, 3) == Twins((1,), 2, 3))
        self.assertFalse(Alone() == Paper("alone") or Twins(1, 2, 3) == Twins(1, 2, 4) or Alone() == ())
        self.assertTrue(Twins(1, 2, 3) != Denial("twins", 1, 2, 3))


class Judge(Case):
    """alone."""

    def test_each_t(self):
        for scheme in SCHEMES:
            n, k, text = len(scheme), scheme.k, str(scheme)
            for t in range(1, n + 1):
                paper = alone(scheme, t)
                self.gives(shows_alone, True, scheme, t, paper)
                self.assertTrue(paper == alone(t=t, scheme=Scheme(scheme.p, scheme.places, k)))
                self.assertIs(type(paper), Alone if 2 * t > n + k - 1 else Twins)
                if not paper:
                    self.right_twins(scheme, t, paper)
            self.same(str(scheme), text)

    def right_twins(self, scheme, t, paper):
        """Two unlike words, both right at t places or more."""
        for told, size in ((paper.one, scheme.k), (paper.other, scheme.k), (paper.row, len(scheme))):
            self.same((type(told), len(told)), (tuple, size))
            self.assertTrue(all(type(sign) is int and 0 <= sign < scheme.p for sign in told))
        self.assertNotEqual(paper.one, paper.other)
        for word in (paper.one, paper.other):
            self.assertGreaterEqual(right_places(scheme, word, paper.row), t)

    def test_trial_of_all_rows(self):
        for p, places, k in ((2, (0, 1), 2), (3, (0, 2), 2), (3, (0, 1, 2), 2), (3, (2, 1, 0), 3), (5, (0, 2, 3), 2),
                             (5, (1, 4, 2, 0), 2)):
            scheme = Scheme(p, places, k)
            for t in range(1, len(places) + 1):
                self.same(not alone(scheme, t), twins_by_trial(scheme, t))

    def test_raises(self):
        for odd in NO_SCHEMES:
            self.fails(BadScheme("scheme"), alone, odd, 1)
            self.fails(BadScheme("scheme"), alone, odd, 0)
        for scheme in SCHEMES:
            for odd in no_scores(scheme):
                self.fails(BadNumber("t"), alone, scheme, odd)


class Shown(Case):
    """shows_alone."""

    def test_alone(self):
        for scheme in SCHEMES:
            for t in range(1, len(scheme) + 1):
                self.gives(shows_alone, 2 * t > len(scheme) + scheme.k - 1, scheme, t, Alone())

    def test_twins_for_each_t(self):
        for scheme in SCHEMES:
            for most in range(1, len(scheme) + 1):
                paper = alone(scheme, most)
                if type(paper) is Twins:
                    many = min(right_places(scheme, word, paper.row) for word in (paper.one, paper.other))
                    for t in range(1, len(scheme) + 1):
                        for told in (paper, Twins(paper.other, paper.one, paper.row),
                                     Twins(list(paper.one), list(paper.other), list(paper.row))):
                            self.gives(shows_alone, many >= t, scheme, t, told)

    def test_any_twins(self):
        # All pairs of words of a small scheme, with rows that mix their values.
        scheme = Scheme(3, [2, 0, 1], 2)
        words = list(itertools.product(range(3), repeat=2))
        for one, other in itertools.product(words, repeat=2):
            for row in itertools.product(range(3), repeat=3):
                many = min(right_places(scheme, word, row) for word in (one, other))
                for t in (1, 2, 3):
                    self.gives(shows_alone, one != other and many >= t, scheme, t, Twins(one, other, row))

    def test_wrong_parts(self):
        one, other, row = (0, 0), (0, 1), (0, 1, 2, 0, 0)
        self.gives(shows_alone, True, FIVE, 3, Twins(one, other, row))
        odd_words = ((0,), (0, 0, 0), (), (0, 5), (0, -4), (0, False), (0, 0.0), (0, None), ("0", "0"), ((0, 0),),
                     (0, (0,)), *NO_LISTS, *NO_INTEGERS)
        for odd in odd_words:
            self.gives(shows_alone, False, FIVE, 1, Twins(odd, other, row))
            self.gives(shows_alone, False, FIVE, 1, Twins(other, odd, row))
        self.gives(shows_alone, False, FIVE, 1, Twins(one, (False, True), row))
        self.gives(shows_alone, False, FIVE, 1, Twins(one, (0, 6), row))
        for odd in ((0, 1, 2, 0), (0, 1, 2, 0, 0, 0), (0, 1, 2, 0, 5), (0, 1, 2, 0, -5), (0, True, 2, 0, 0),
                    (False, 1, 2, 0, 0), (0, 1.0, 2, 0, 0), (0, 1, 2, 0, None), (), (row,), *NO_LISTS, *NO_INTEGERS):
            self.gives(shows_alone, False, FIVE, 1, Twins(one, other, odd))
        for same in (one, other):
            self.gives(shows_alone, False, FIVE, 1, Twins(same, same, row))
            self.gives(shows_alone, False, FIVE, 1, Twins(same, list(same), row))

    def test_one_place_too_few(self):
        self.gives(shows_alone, False, FIVE, 4, Twins((0, 0), (0, 1), (0, 1, 2, 0, 0)))
        for row, told in (((0, 1, 2, 0, 1), False), ((0, 1, 1, 0, 0), False), ((1, 1, 2, 0, 0), False),
                          ((0, 1, 0, 3, 0), True)):
            self.gives(shows_alone, told, FIVE, 3, Twins((0, 0), (0, 1), row))

    def test_other_values(self):
        parts = ((0, 0), (0, 1), (0, 1, 2, 0, 0))
        for odd in (None, True, False, 0, "alone", "twins", (), parts, list(parts), {}, Odd(), Alone, Twins,
                    Paper("alone"), Denial("twins", *parts), AloneBelow(), TwinsBelow(*parts), FIVE, Far(None, 1),
                    Twins(None, None, None), Twins((), (), ()), Twins(parts, parts, parts)):
            for t in (1, 3, 4, 5):
                self.gives(shows_alone, False, FIVE, t, odd)

    def test_raises(self):
        for paper in (Alone(), Twins((0, 0), (0, 1), (0, 1, 2, 0, 0)), None):
            for odd in NO_SCHEMES:
                self.fails(BadScheme("scheme"), shows_alone, odd, 3, paper)
                self.fails(BadScheme("scheme"), shows_alone, odd, 0, paper)
            for odd in no_scores(FIVE):
                self.fails(BadNumber("t"), shows_alone, FIVE, odd, paper)
        self.same(shows_alone(value=Alone(), t=4, scheme=FIVE), True)


if __name__ == "__main__":
    unittest.main()
