"""Point 7 and the interface, allnear/least.py."""

import unittest

from allnear.curves import Curve
from allnear.errors import BadNumber, BadReading, TooMany
from allnear.least import least_curve
from allnear.polys import Poly
from allnear.reaches import conditions_of
from allnear.readings import Reading
from allnear.schemes import Scheme
from tests.helper import GREAT, Case, Numbers
from tests.second import least_terms, put, rows_of, terms_of
from tests.some_readings import GREATER, NO_READINGS, NO_SCORES, SMALL, some_reading


def places_exchanged(reading, seed):
    """The reading with its places and its offers told in another order."""
    order = Numbers(seed).pick(range(len(reading.scheme)), len(reading.scheme))
    scheme = Scheme(reading.scheme.p, [reading.scheme.places[at] for at in order], reading.scheme.k)
    return Reading(scheme, [reading.offers[at][::-1] for at in order])


def state(reading):
    """All that is told of a reading."""
    return (str(reading), reading.points, reading.offers)


class Least(Case):
    """The curve itself."""

    def test_second_way(self):
        for reading in SMALL + GREATER:
            for m in range(1, 17):
                if conditions_of(reading, m) > 150:
                    break
                if reading in GREATER and m > 1:
                    continue
                scheme, ahead = reading.scheme, state(reading)
                points = [(a, b, m * weight) for a, b, weight in reading.points]
                least = least_curve(reading, m)
                self.same(least.rows, rows_of(least_terms(scheme.p, scheme.k, points)))
                self.assertTrue(least.p == scheme.p and least == least.led(scheme.k))
                self.assertTrue(all(least.passes(a, b) >= times for a, b, times in points))
                self.same(state(reading), ahead)

    def test_without_offers(self):
        for p, places, k in ((2, [1, 0], 2), (97, list(range(16)), 6)):
            scheme = Scheme(p, places, k)
            for m in (1, 2, 150, 151, GREAT):
                self.same(least_curve(Reading(scheme, [[]] * len(places)), m).rows, ((1,),))

    def test_one_offer(self):
        scheme = Scheme(5, [3, 1], 2)
        self.same(least_curve(Reading(scheme, [[(2, 1)], []]), 1).rows, ((2, 1),))
        self.same(least_curve(Reading(scheme, [[], [(2, 1)]]), 2).rows, ((1, 3, 1),))
        self.assertTrue(least_curve(Reading(scheme, [[], [(4, 1)]]), 16) == Curve(5, [(Poly(5, [-1, 1]) ** 16)
                                                                                      .coefficients]))

    def test_any_order(self):
        for at, reading in enumerate(SMALL + GREATER):
            rows = least_curve(reading, 1).rows
            for turn in range(3):
                self.same(least_curve(places_exchanged(reading, 10 * at + turn), 1).rows, rows)

    def test_more_never_lessens(self):
        for reading in SMALL:
            k = reading.scheme.k
            leads = []
            for m in (1, 2):
                if conditions_of(reading, m) <= 150:
                    i, j = least_curve(reading, m).leading(k)
                    leads.append((i + (k - 1) * j, j))
            self.same(leads, sorted(leads))
            for index, pairs in enumerate(reading.offers):
                for b, _ in pairs:
                    i, j = least_curve(reading.without(index, b), 1).leading(k)
                    self.assertLessEqual((i + (k - 1) * j, j), leads[0])


class Moved(Case):
    """Readings moved, stretched, renamed: their curves likewise."""

    def moved(self, reading, other, x_terms, y_terms):
        """The curve of the other reading is that of the reading with these put for x and y."""
        scheme = reading.scheme
        for m in (1, 2):
            if conditions_of(reading, m) <= 150:
                terms = put(scheme.p, terms_of(least_curve(reading, m)), x_terms, y_terms)
                told = Curve(scheme.p, rows_of(terms)).led(scheme.k)
                self.same(least_curve(other, m).rows, told.rows)

    def test_by_a_word(self):
        for seed, reading in enumerate(SMALL):
            p = reading.scheme.p
            word = Numbers(seed).some(reading.scheme.k, p)
            y_terms = {(0, 1): 1, **{(i, 0): -sign % p for i, sign in enumerate(word) if sign}}
            self.moved(reading, reading.moved(Poly(p, word)), {(1, 0): 1}, y_terms)

    def test_stretched(self):
        for seed, reading in enumerate(SMALL):
            p = reading.scheme.p
            by = 1 + Numbers(seed).below(p - 1)
            self.moved(reading, reading.stretched(by), {(1, 0): 1}, {(0, 1): pow(by, -1, p)})

    def test_renamed(self):
        for seed, reading in enumerate(SMALL):
            p, numbers = reading.scheme.p, Numbers(seed)
            stretch, shift = 1 + numbers.below(p - 1), numbers.below(p)
            turn = pow(stretch, -1, p)
            x_terms = {(1, 0): turn, **({(0, 0): -shift * turn % p} if shift else {})}
            self.moved(reading, reading.renamed(stretch, shift), x_terms, {(0, 1): 1})


class Bounds(Case):
    """150 conditions, and wrong values."""

    def test_150_conditions(self):
        scheme = Scheme(97, list(range(16)), 2)
        full = Reading(scheme, [[(at * at, 3)] if at < 7 else [(5, 1)] if at == 7 else [] for at in range(16)])
        self.same(conditions_of(full, 2), 150)
        points = [(a, b, 2 * weight) for a, b, weight in full.points]
        self.same(least_curve(full, 2).rows, rows_of(least_terms(97, 2, points)))
        weights = [3] * 6 + [2] + [1] * 5 + [0] * 4
        more = Reading(scheme, [[(at, weight)] if weight else [] for at, weight in enumerate(weights)])
        self.same(conditions_of(more, 2), 151)
        self.fails(TooMany("conditions", 150), least_curve, more, 2)
        self.same(least_curve(more, 1).leading(2), least_curve(more, 1).led(2).leading(2))

    def test_far_too_many(self):
        for reading in SMALL:
            for m in (17, 1000, GREAT):
                if reading.points:
                    self.fails(TooMany("conditions", 150), least_curve, reading, m)

    def test_raises(self):
        reading = some_reading(97, 16, 3, 24, 1)
        for odd in NO_READINGS:
            self.fails(BadReading("reading"), least_curve, odd, 1)
            self.fails(BadReading("reading"), least_curve, odd, 0)
        for odd in NO_SCORES:
            self.fails(BadNumber("m"), least_curve, reading, odd)
            self.fails(BadNumber("m"), least_curve, m=odd, reading=SMALL[1])


if __name__ == "__main__":
    unittest.main()
