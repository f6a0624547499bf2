"""Point 9 and the interface, allnear/reaches.py."""

import unittest

from allnear.errors import BadNumber, BadReading
from allnear.reaches import conditions_of, enough, reach
from allnear.readings import Reading
from allnear.schemes import Scheme
from tests.helper import GREAT, Case
from tests.second import conditions, many_below
from tests.some_readings import GREATER, NO_READINGS, NO_SCORES, SMALL

ALL_24 = [Reading(Scheme(31, list(range(8)), k), [[(turn, 3) for turn in range(3)] for _ in range(8)])
          for k in range(2, 7)]
ONE_OFFER = [Reading(Scheme(7, list(range(6)), k), [[], [(2, weight)], [], [], [], []])
             for k in range(2, 7) for weight in (1, 2, 3)]
WITHOUT = [Reading(Scheme(7, list(range(6)), k), [[], [], [], [], [], []]) for k in range(2, 7)]
MANY = SMALL + GREATER + ALL_24 + ONE_OFFER + WITHOUT


def least_enough(reading, t):
    """The least m that is enough, counted term by term and condition by condition."""
    for m in range(1, 20):
        asked = conditions(reading, m)
        if asked <= 150 and many_below(reading.scheme.k, m * t) > asked:
            return m
    return None


class Conditions(Case):
    """conditions_of."""

    def test_own_sums(self):
        for reading in MANY:
            for m in (1, 2, 3, 4, 7):
                self.gives(conditions_of, conditions(reading, m), reading, m)
            for m in (10, 10 ** 9, GREAT):
                told = sum(m * weight * (m * weight + 1) for _, _, weight in reading.points) // 2
                self.gives(conditions_of, told, reading, m)

    def test_some(self):
        self.gives(conditions_of, 144, ALL_24[0], 1)
        self.gives(conditions_of, 504, ALL_24[0], 2)
        self.gives(conditions_of, 0, WITHOUT[0], GREAT)
        self.same(conditions_of(m=5, reading=ONE_OFFER[2]), 120)

    def test_raises(self):
        for odd in NO_READINGS:
            self.fails(BadReading("reading"), conditions_of, odd, 1)
            self.fails(BadReading("reading"), conditions_of, odd, None)
        for odd in NO_SCORES:
            self.fails(BadNumber("m"), conditions_of, SMALL[0], odd)
            self.fails(BadNumber("m"), conditions_of, WITHOUT[0], odd)


class Enough(Case):
    """enough."""

    def test_own_counting(self):
        for reading in MANY:
            least, _ = reach(reading)
            for t in range(1, least + 12):
                m = least_enough(reading, t)
                self.gives(enough, m, reading, t)
                self.same(m is None, t < least)

    def test_far_scores(self):
        for reading in MANY:
            for t in (1000, 10 ** 6, GREAT, GREAT + 1):
                self.gives(enough, 1, reading, t)

    def test_within_the_last_fact(self):
        for reading in MANY:
            c = reading.scheme.k - 1
            for m in range(1, 8):
                for t in range(1, 40):
                    if m * (t * t - c * reading.squares) >= c * reading.weights and conditions_of(reading, m) <= 150:
                        self.assertIsNotNone(enough(reading, t))
                        self.assertLessEqual(enough(reading, t), m)

    def test_edges(self):
        # 21 conditions and 21 terms are not enough: more terms are asked for.
        self.gives(enough, None, ONE_OFFER[2], 3)
        self.gives(enough, 1, ONE_OFFER[2], 4)
        self.gives(enough, 1, WITHOUT[0], 1)

    def test_150_conditions(self):
        # So many offers of each weight, for m 2 of 150 or 151 conditions; m 1 is not enough for this t.
        for k, many, t, told in ((2, (0, 15, 0), 9, 2), (2, (15, 0, 5), 9, 2), (3, (1, 0, 7), 12, 2),
                                 (2, (0, 13, 1), 9, None), (2, (12, 1, 5), 9, None), (3, (2, 4, 5), 12, None)):
            weights = [weight for weight, times in zip((1, 2, 3), many) for _ in range(times)]
            offers = [[(at, weight) for at, weight in enumerate(weights) if at % 8 == place] for place in range(8)]
            reading = Reading(Scheme(31, list(range(8)), k), offers)
            self.same(conditions_of(reading, 2), 150 if told else 151)
            self.assertGreater(many_below(k, 2 * t), 151)
            self.gives(enough, told, reading, t)

    def test_raises(self):
        for odd in NO_READINGS:
            self.fails(BadReading("reading"), enough, odd, 1)
            self.fails(BadReading("reading"), enough, odd, 0)
            self.fails(BadReading("reading"), reach, odd)
        for odd in NO_SCORES:
            self.fails(BadNumber("t"), enough, SMALL[0], odd)
            self.fails(BadNumber("t"), enough, t=odd, reading=WITHOUT[1])


class Reach(Case):
    """reach."""

    def test_least(self):
        for reading in MANY:
            t, m = reach(reading)
            self.same((t, m), next((t, least_enough(reading, t)) for t in range(1, 99) if least_enough(reading, t)))
            self.gives(reach, (t, m), reading)
            self.assertTrue(enough(reading, t) == m and (t == 1 or enough(reading, t - 1) is None))

    def test_some(self):
        self.same([reach(reading) for reading in WITHOUT], [(1, 1)] * 5)
        self.same(reach(ONE_OFFER[2]), (4, 1))
        self.same([reach(reading)[0] for reading in ALL_24], [17, 24, 28, 33, 36])

    def test_not_in_the_order_of_places(self):
        scheme = Scheme(7, [6, 5, 4, 3, 2, 1, 0], 2)
        self.gives(reach, (3, 3), Reading.plain(scheme, [1, 2, 3, 0, 1, 2, 5]))


if __name__ == "__main__":
    unittest.main()
