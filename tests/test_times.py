"""Point 2: answers come in a short time, also at the bounds that are told. The limit leaves much room."""

import time
import unittest

from allnear.checks import first_twice
from allnear.curves import Curve
from allnear.polys import Poly, shared, through
from allnear.schemes import Scheme
from allnear.terms import many_terms, terms_to
from allnear.words import words
from tests.helper import Numbers

LIMIT = 10


class Times(unittest.TestCase):
    """The greatest values that are promised."""

    def setUp(self):
        self.begun = time.perf_counter()

    def tearDown(self):
        self.assertLess(time.perf_counter() - self.begun, LIMIT)

    def test_polys(self):
        numbers = Numbers(40)
        f, g = Poly(97, numbers.some(200, 97) + [1]), Poly(97, numbers.some(200, 97) + [1])
        self.assertEqual((f ** 50).degree, 10000)
        self.assertEqual((f * g // g, (f * g) % f), (f, Poly(97)))
        self.assertEqual(f.moved(5, 3).degree, 200)
        self.assertEqual(f.at(Poly(97, [1, 2, 3])).degree, 400)
        self.assertEqual(shared(f * g, f), f)
        self.assertLess(through(97, [(sign, sign * sign % 97) for sign in range(97)]).degree, 3)
        self.assertEqual(Poly(97, [10 ** 4000] * 201).degree, 200)

    def test_curves(self):
        numbers = Numbers(41)
        curve = Curve(97, [numbers.some(69, 97) + [1] for _ in range(21)])
        self.assertEqual(curve.around(3, 5).around(-3, -5), curve)
        for a in range(24):
            self.assertLess(curve.passes(a, a), 90)
        self.assertEqual((curve * curve).power, 40)
        self.assertIsNone(curve.divided(Poly(97, numbers.some(6, 97))))
        self.assertEqual(Curve.read(str(curve)), curve)

    def test_lists(self):
        self.assertEqual(len(words(Scheme(53, [0, 1], 2))), 2809)
        self.assertEqual(len(terms_to(2, 100)), 5151)
        self.assertEqual(many_terms(2, 10 ** 30), (10 ** 30 + 1) * (10 ** 30 + 2) // 2)
        self.assertEqual(first_twice([(sign, sign + 1) for sign in range(50000)] + [(7, 8)]), (7, 8))


if __name__ == "__main__":
    unittest.main()
