"""Point 5 and the interface, allnear/readings.py, but for texts."""

import unittest

from allnear.errors import BadNumber, BadPoly, BadReading, NoOffer, NoPlace, TooMany, Twice
from allnear.polys import Poly
from allnear.readings import Reading
from allnear.schemes import Scheme
from allnear.words import row_of, words
from tests.helper import GREAT, NO_INTEGERS, NO_LISTS, Case, Numbers, Odd
from tests.some_readings import some_reading

SCHEME = Scheme(7, [0, 1, 2], 2)
READING = Reading(SCHEME, [[(3, 1)], [], [(5, 1), (4, 2)]])
NO_SCHEMES = (None, True, 3, "7 2 at 0 at 1", (7, (0, 1, 2), 2), [], {}, Odd(), Scheme, READING)
NO_WORDS = (None, True, 0, "7 : 1", [1], (1, 2), {}, Odd(), Poly, Poly(5, [1]), Poly(7, [0, 0, 1]), Poly(2))


SOME = [some_reading(p, many, k, offers, seed) for seed, (p, many, k, offers) in enumerate(
    ((2, 2, 2, 4), (2, 2, 2, 0), (3, 3, 2, 5), (5, 5, 3, 12), (7, 3, 2, 20), (7, 7, 6, 24), (97, 16, 4, 24),
     (97, 2, 2, 24), (13, 12, 2, 11), (53, 16, 2, 1)))]


class Made(Case):
    """What makes a reading, and what does not."""

    def test_attributes(self):
        for reading in SOME + [READING]:
            offers = [sorted(pairs) for pairs in reading.offers]
            again = Reading(reading.scheme, [pairs[::-1] for pairs in offers])
            self.same(again.offers, tuple(tuple(pairs) for pairs in offers))
            points = [(a, b, w) for a, pairs in zip(reading.scheme.places, offers) for b, w in pairs]
            self.same(again.points, tuple(points))
            self.same(again.weights, sum(w for _, _, w in points))
            self.same(again.squares, sum(w * w for _, _, w in points))
            self.same(again.is_plain, max(map(len, offers)) < 2 and all(w == 1 for _, _, w in points))
            self.assertTrue(again.scheme == reading.scheme and again == reading)

    def test_none_to_24_offers(self):
        scheme = Scheme(97, list(range(16)), 2)
        for many in range(28):
            offers = [[(value, 1) for value in range(many) if value % 16 == at] for at in range(16)]
            crowded = [[] for _ in range(15)] + [[(value, 3) for value in range(many)]]
            for told in (offers, crowded):
                if many > 24:
                    self.fails(TooMany("offers", 24), Reading, scheme, told)
                else:
                    self.same(len(Reading(scheme, told).points), many)

    def test_plain_or_not(self):
        for offers, told in (([[], [], []], True), ([[(1, 1)], [(1, 1)], [(0, 1)]], True), ([[(1, 2)], [], []], False),
                             ([[(1, 1), (2, 1)], [], []], False), ([[], [], [(6, 1)]], True),
                             ([[], [(0, 3)], [(6, 1)]], False), ([[], [(0, 1), (1, 2)], []], False)):
            self.same(Reading(SCHEME, offers).is_plain, told)

    def test_no_scheme(self):
        for odd in NO_SCHEMES:
            self.fails(BadReading("scheme"), Reading, odd, [[], [], []])
            self.fails(BadReading("scheme"), Reading, odd, None)
            self.fails(BadReading("scheme"), Reading.plain, odd, [None, None, None])
            self.fails(BadReading("scheme"), Reading.plain, odd, None)

    def test_no_offers(self):
        for odd in NO_LISTS:
            self.fails(BadReading("offers"), Reading, SCHEME, odd)
            self.fails(BadReading("offers"), Reading, SCHEME, [[], odd, []])
            self.fails(BadReading("offers"), Reading, SCHEME, [[], [], [(1, 1), odd]])
        for offers in ([], [[], []], [[], [], [], []], [[(1,)], [], []], [[(1, 1, 1)], [], []], [[()], [], []],
                       [(1, 1), (), ()]):
            self.fails(BadReading("offers"), Reading, SCHEME, offers)
        for odd in (*NO_INTEGERS, -1, 7, GREAT):
            self.fails(BadReading("offers"), Reading, SCHEME, [[(odd, 1)], [], []])
            self.fails(BadReading("offers"), Reading, SCHEME, [[(1, 1), (1, 1)], [], [[odd, 1]]])
        for odd in (*NO_INTEGERS, -1, 0, 4, GREAT):
            self.fails(BadReading("offers"), Reading, SCHEME, [[], [], [(2, odd)]])

    def test_twice(self):
        self.fails(Twice(5), Reading, SCHEME, [[(1, 1), (5, 2)], [(5, 1), (1, 1), (5, 3)], [(1, 1), (1, 1)]])
        self.fails(Twice(3), Reading, SCHEME, [[], [], [(4, 1), [3, 1], (3, 1), (4, 1)]])
        self.fails(Twice(0), Reading, Scheme(97, [0, 1], 2), [[(v, 1) for v in range(30)] + [(0, 2)], []])
        self.same(Reading(SCHEME, [[(5, 1)], [(5, 1)], [(5, 1)]]).weights, 3)

    def test_copied(self):
        offers = [[[5, 1], [3, 2]], [], ((1, 3),)]
        reading = Reading(SCHEME, offers)
        self.same(offers, [[[5, 1], [3, 2]], [], ((1, 3),)])
        offers[0][0][0] = 6
        offers[1].append([2, 2])
        self.same(reading.offers, (((3, 2), (5, 1)), (), ((1, 3),)))
        self.same(reading.points, ((0, 3, 2), (0, 5, 1), (2, 1, 3)))

    def test_equal(self):
        same = Reading(scheme=Scheme(7, (0, 1, 2), 2), offers=([[3, 1]], (), [[4, 2], [5, 1]]))
        self.assertTrue(READING == same)
        self.assertFalse(READING != same)
        for other in (READING.without(0, 3), READING.with_offer(1, 1, 1), READING.stretched(2),
                      Reading(Scheme(7, [0, 1, 2], 3), READING.offers),
                      Reading(Scheme(7, [0, 1, 3], 2), READING.offers),
                      Reading(SCHEME, [[(3, 1)], [], [(5, 2), (4, 2)]])):
            self.assertFalse(READING == other)
            self.assertTrue(READING != other)
        for other in (None, True, str(READING), READING.offers, SCHEME, Odd()):
            self.assertIs(READING == other, False)
            self.assertIs(other == READING, False)

    def test_listed(self):
        for name in ("plain", "score", "right", "with_offer", "without", "moved", "stretched", "renamed", "read",
                     "__str__", "__eq__"):
            self.assertIn(name, vars(Reading))


class Plain(Case):
    """Reading.plain."""

    def test_plain(self):
        for row in ([1, 2, 3], (0, None, 6), [None, None, None], [0, 0, 0]):
            told = Reading.plain(SCHEME, row)
            self.same(told.offers, tuple(() if b is None else ((b, 1),) for b in row))
            self.same(told.is_plain, True)
            self.same(told.scheme, SCHEME)
            self.assertTrue(Reading.plain(row=row, scheme=SCHEME) == told)
        row = [1, None, 3]
        Reading.plain(SCHEME, row)
        self.same(row, [1, None, 3])

    def test_no_row(self):
        for odd in NO_LISTS + ([], [1, 2], [1, 2, 3, 4], (None,)):
            self.fails(BadReading("row"), Reading.plain, SCHEME, odd)
        for odd in (*NO_INTEGERS, -1, 7, GREAT):
            if odd is not None:
                self.fails(BadReading("row"), Reading.plain, SCHEME, [None, odd, 1])


def score_of(reading, word):
    """The score and the right places by a second way."""
    score, right = 0, []
    for at, place in enumerate(reading.scheme.places):
        sign = sum(c * place ** i for i, c in enumerate(word.coefficients)) % reading.scheme.p
        for value, weight in dict(reading.offers[at]).items():
            if value == sign:
                score += weight
                right.append(at)
    return score, tuple(right)


class Scores(Case):
    """Scores and right places."""

    def test_scores(self):
        for reading in SOME + [READING]:
            scheme, numbers = reading.scheme, Numbers(3)
            told = [Poly(scheme.p, numbers.some(scheme.k, scheme.p)) for _ in range(20)]
            for word in told + [Poly(scheme.p), Poly(scheme.p, [0, 1])]:
                self.same((reading.score(word), reading.right(word)), score_of(reading, word))

    def test_a_word_read(self):
        for word in words(SCHEME):
            reading = Reading.plain(SCHEME, row_of(SCHEME, word))
            self.same((reading.score(word), reading.right(word)), (3, (0, 1, 2)))

    def test_no_word(self):
        for odd in NO_WORDS:
            self.fails(BadPoly("word"), READING.score, odd)
            self.fails(BadPoly("word"), READING.right, odd)
            self.fails(BadPoly("word"), READING.moved, odd)


class Offers(Case):
    """Offers put in and struck."""

    def test_put_in_and_struck(self):
        for reading in SOME + [READING]:
            p, offers = reading.scheme.p, reading.offers
            for at in range(len(offers)):
                taken = [value for value, _ in offers[at]]
                for value in (0, 1, p // 2, p - 1):
                    if value in taken:
                        struck = reading.without(at, value)
                        self.same(struck.offers[at], tuple(pair for pair in offers[at] if pair[0] != value))
                        self.same(struck.offers[:at] + struck.offers[at + 1:], offers[:at] + offers[at + 1:])
                        self.assertTrue(struck.with_offer(at, value, dict(offers[at])[value]) == reading)
                        self.fails(Twice(value), reading.with_offer, at, value, 3)
                    elif len(reading.points) < 24:
                        more = reading.with_offer(at, value, 2)
                        self.same(more.offers[at], tuple(sorted(offers[at] + ((value, 2),))))
                        self.assertTrue(more.without(at, value) == reading)
                        self.fails(NoOffer(value), reading.without, at, value)
                    else:
                        self.fails(TooMany("offers", 24), reading.with_offer, at, value, 1)
            self.same(reading.offers, offers)

    def test_order_when_full(self):
        scheme = Scheme(97, [0, 1], 2)
        full = Reading(scheme, [[(value, 1) for value in range(24)], []])
        self.fails(Twice(23), full.with_offer, 0, 23, 1)
        self.fails(TooMany("offers", 24), full.with_offer, 0, 24, 1)
        self.fails(BadNumber("weight"), full.with_offer, 0, 23, 4)
        self.fails(NoPlace(2), full.with_offer, 2, 97, 4)

    def test_with_offer_raises(self):
        for odd in (*NO_INTEGERS, -1, 3, GREAT, -GREAT):
            self.fails(NoPlace(odd), READING.with_offer, odd, 0, 1)
            self.fails(NoPlace(odd), READING.with_offer, odd, None, None)
            self.fails(NoPlace(odd), READING.without, odd, 3)
            self.fails(NoPlace(odd), READING.without, odd, None)
        for odd in (*NO_INTEGERS, -1, 7, GREAT):
            self.fails(BadNumber("value"), READING.with_offer, 0, odd, 1)
            self.fails(BadNumber("value"), READING.with_offer, 0, odd, 9)
        for odd in (*NO_INTEGERS, -1, 0, 4, GREAT):
            self.fails(BadNumber("weight"), READING.with_offer, 1, 0, odd)
            self.fails(BadNumber("weight"), READING.with_offer, 0, 3, odd)

    def test_without_raises(self):
        for odd in (*NO_INTEGERS, -1, 0, 6, 7, GREAT):
            self.fails(NoOffer(odd), READING.without, 0, odd)
            self.fails(NoOffer(odd), READING.without, 1, odd)
        ones = Reading(SCHEME, [[(1, 1)], [(0, 1)], []])
        for odd in (True, 1.0, [1], "1"):
            self.fails(NoOffer(odd), ones.without, 0, odd)
        self.fails(NoOffer(False), ones.without, 1, False)

    def test_by_name(self):
        self.assertTrue(READING.with_offer(weight=3, value=0, index=1).without(value=0, index=1) == READING)


class Changed(Case):
    """Moved, stretched, renamed: scores stay."""

    def test_moved(self):
        for reading in SOME + [READING]:
            scheme, numbers = reading.scheme, Numbers(4)
            for _ in range(5):
                word, other = (Poly(scheme.p, numbers.some(scheme.k, scheme.p)) for _ in range(2))
                told, row = reading.moved(word), row_of(scheme, word)
                self.same(told.offers, tuple(tuple(sorted(((b + sign) % scheme.p, w) for b, w in pairs))
                                             for sign, pairs in zip(row, reading.offers)))
                self.assertTrue(told.moved(-word) == reading and told.scheme == scheme)
                self.same((told.score(other + word), told.right(other + word)), score_of(reading, other))

    def test_stretched(self):
        for reading in SOME + [READING]:
            p = reading.scheme.p
            for by in (1, -1, p + 1, p - 1, GREAT + 1, 3):
                if by % p == 0:
                    continue
                told = reading.stretched(by)
                self.same(told.offers, tuple(tuple(sorted((b * by % p, w) for b, w in pairs))
                                             for pairs in reading.offers))
                self.assertTrue(told.stretched(pow(by, -1, p)) == reading and told.scheme == reading.scheme)
                word = Poly(p, [1, 1])
                self.same(told.score(word * Poly(p, [by])), reading.score(word))
        for odd in (*NO_INTEGERS, 0, 7, -7, 7 * GREAT):
            self.fails(BadNumber("by"), READING.stretched, odd)

    def test_renamed(self):
        for reading in SOME + [READING]:
            p = reading.scheme.p
            for stretch, shift in ((1, 0), (1, 1), (p - 1, -GREAT), (p + 1, p), (3, 2)):
                if stretch % p == 0:
                    continue
                told, back = reading.renamed(stretch, shift), pow(stretch, -1, p)
                self.same(told.offers, reading.offers)
                self.assertTrue(told.scheme == reading.scheme.renamed(stretch, shift))
                self.assertTrue(told.renamed(back, -back * shift) == reading)
                word = Poly(p, [1, 2])
                self.same(told.right(word.moved(-back * shift, back)), reading.right(word))
        for odd in (*NO_INTEGERS, 0, 7, -14):
            self.fails(BadNumber("stretch"), READING.renamed, odd, None)
        for odd in NO_INTEGERS:
            self.fails(BadNumber("shift"), READING.renamed, 1, odd)

    def test_nothing_changes(self):
        before = (READING.offers, READING.points, READING.scheme.places)
        for _ in (READING.moved(Poly(7, [1, 1])), READING.stretched(3), READING.renamed(2, 1), str(READING)):
            self.same((READING.offers, READING.points, READING.scheme.places), before)


if __name__ == "__main__":
    unittest.main()
