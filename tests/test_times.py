"""Point 2: answers come in a short time, also at the bounds that are told. The limit leaves much room."""

import time
import unittest

from allnear.bases import Base
from allnear.check_near import shows_all, shows_nearest
from allnear.check_numbers import shows_numbers
from allnear.check_pieces import shows_pieces
from allnear.checks import first_twice
from allnear.curves import Curve
from allnear.looks import best_look
from allnear.near import All, all_near, nearest
from allnear.numbers import all_numbers, least_worth
from allnear.pieces import pieces
from allnear.polys import Poly, shared, through
from allnear.reaches import reach
from allnear.readings import Reading
from allnear.roots import whole_roots
from allnear.rows import determinant, reduced
from allnear.schemes import Scheme
from allnear.stories import play
from allnear.terms import many_terms, terms_to
from allnear.words import words
from tests.helper import GREAT, Numbers
from tests.some_curves import curve_of
from tests.some_readings import some_reading
from tests.some_rests import FAR
from tests.test_roots import with_roots
from tests.test_rows import mixed, some_rows, with_a_great_first

LIMIT = 10


class Times(unittest.TestCase):
    """The greatest values that are promised."""

    def setUp(self):
        self.begun = time.perf_counter()

    def tearDown(self):
        self.assertLess(time.perf_counter() - self.begun, LIMIT)

    def test_polys(self):
        numbers = Numbers(40)
        f, g = Poly(97, numbers.some(200, 97) + [1]), Poly(97, numbers.some(200, 97) + [1])
        self.assertEqual((f ** 50).degree, 10000)
        self.assertEqual((f * g // g, (f * g) % f), (f, Poly(97)))
        self.assertEqual(f.moved(5, 3).degree, 200)
        self.assertEqual(f.at(Poly(97, [1, 2, 3])).degree, 400)
        self.assertEqual(shared(f * g, f), f)
        self.assertLess(through(97, [(sign, sign * sign % 97) for sign in range(97)]).degree, 3)
        self.assertEqual(Poly(97, [10 ** 4000] * 201).degree, 200)

    def test_curves(self):
        numbers = Numbers(41)
        curve = Curve(97, [numbers.some(69, 97) + [1] for _ in range(21)])
        self.assertEqual(curve.around(3, 5).around(-3, -5), curve)
        for a in range(24):
            self.assertLess(curve.passes(a, a), 90)
        self.assertEqual((curve * curve).power, 40)
        self.assertIsNone(curve.divided(Poly(97, numbers.some(6, 97))))
        self.assertEqual(Curve.read(str(curve)), curve)

    def test_lists(self):
        self.assertEqual(len(words(Scheme(53, [0, 1], 2))), 2809)
        self.assertEqual(len(terms_to(2, 100)), 5151)
        self.assertEqual(many_terms(2, 10 ** 30), (10 ** 30 + 1) * (10 ** 30 + 2) // 2)
        self.assertEqual(first_twice([(sign, sign + 1) for sign in range(50000)] + [(7, 8)]), (7, 8))

    def test_bases(self):
        numbers = Numbers(42)
        pairs = numbers.pick([(a, b) for a in range(97) for b in range(97)], 150)
        for k in (2, 6):
            for times in ([1] * 150, [3] * 25, [16, 4, 2, 1], [9, 9, 9, 5]):
                base = Base(97, k, 20)
                for (a, b), many in zip(pairs, times):
                    base = base.passing(a, b, many)
                self.assertEqual(base.conditions, 150)

    def test_pieces(self):
        numbers = Numbers(43)
        for words_told, rest in (([numbers.some(4, 97) for _ in range(20)], [numbers.some(9, 97) + [1]]),
                                 ([numbers.some(6, 97) for _ in range(13)], [[0, 1, 1], [], [], [1]]),
                                 ([[1, 2, 3, 4, 5, at] for at in range(10)] * 2, [[0, 1]]),
                                 ([[1, 2, 3, 4]] * 20, [[1] * 10])):
            curve = curve_of(97, words_told, rest)
            paper = pieces(curve, 6)
            self.assertEqual(sum(paper.times), len(words_told))
            self.assertTrue(shows_pieces(curve, 6, paper))
        self.assertEqual(pieces(Curve(97, [numbers.some(70, 97) for _ in range(21)]), 6).words, ())

    def test_readings(self):
        for k in range(2, 7):
            for reading in (some_reading(97, 16, k, 24, k), some_reading(97, 16, k, 24, k, 1),
                            Reading(Scheme(97, list(range(8)), k), [[(turn, 3) for turn in range(3)]] * 8)):
                paper = all_near(reading, reach(reading)[0])
                self.assertTrue(shows_all(reading, reach(reading)[0], paper))
                self.assertTrue(shows_nearest(reading, nearest(reading)))
                self.assertEqual(all_near(reading, GREAT).words, ())
        reading = Reading(Scheme(97, list(range(8)), 2), [[(turn, 3) for turn in range(3)]] * 8)
        self.assertEqual(best_look(reading, 24), (0, 1))

    def test_a_great_curve(self):
        reading = some_reading(97, 16, 2, 24, 5)
        curve = Curve(97, [[0] * 59 + [1]] * 21)
        self.assertFalse(shows_all(reading, GREAT, All((), curve, 1)))
        through_all = Curve(97, [[1]])
        for place in reading.scheme.places:
            for _ in range(3):
                through_all = through_all * Curve(97, [[-place, 1]])
        self.assertTrue(shows_all(reading, GREAT, All((), through_all * Curve(97, [[]] * 20 + [[0] * 11 + [1]]), 1)))

    def test_rows(self):
        for seed in range(40):
            for rows in (some_rows(6, 10 ** 40 - 1, seed), with_a_great_first(6, seed), mixed(6, seed)):
                self.assertEqual(abs(determinant(rows)) > 0, bool(reduced(rows)))

    def test_roots(self):
        for roots in ([10 ** 60 + turn for turn in range(11)], [(turn - 5) * 10 ** 60 for turn in range(11)],
                      [10 ** 60] * 11, [10 ** (6 * turn) for turn in range(11)]):
            row = with_roots(roots)
            for far in (10 ** 60, 10 ** 120, 10 ** 1000):
                self.assertEqual(whole_roots(row, -far * 9, far * 9)[-1:], (max(roots),))
        self.assertEqual(whole_roots([10 ** 3000] * 12, -10 ** 3000, 10 ** 3000), (-1,))
        far = [10 ** 600 + 7 * turn for turn in range(11)]
        self.assertEqual(whole_roots(with_roots(far), 0, 10 ** 900), tuple(far))

    def test_numbers(self):
        for rests in FAR[:5]:
            least = least_worth(rests)
            for worth in (least, least + 1, 2 * least, rests.product):
                self.assertTrue(shows_numbers(rests, worth, all_numbers(rests, worth)))

    def test_a_long_story(self):
        begin = "set 97 2 " + " ".join(f"at {place}" for place in range(16))
        lines = [begin] + ["offer 3 5 1", "stretch 2", "move 1 1", "read 5 2 at 0 at 1", begin] * 1000
        self.assertEqual(play(lines)[-6:], ("16", "1", "1", "1", "0", "16"))


if __name__ == "__main__":
    unittest.main()
