"""Point 5 and the interface, allnear/words.py."""

import unittest
from itertools import combinations, product

from allnear.errors import BadPoly, BadReading, BadScheme, TooMany
from allnear.polys import Poly, through
from allnear.schemes import Scheme
from allnear.words import coefficients_of, is_word, row_of, word_of, words
from tests.helper import GREAT, NO_INTEGERS, NO_LISTS, Case, Numbers, Odd

SCHEMES = (Scheme(2, [1, 0], 2), Scheme(3, [2, 0, 1], 2), Scheme(5, [4, 0, 1, 3], 3), Scheme(7, [1, 2, 4], 2),
           Scheme(13, list(range(12, 0, -1)), 4), Scheme(97, list(range(3, 19)), 6), Scheme(5, [0, 1, 2, 3, 4], 5))
NO_SCHEMES = (None, True, 3, "7 2 at 0 at 1", (7, (0, 1), 2), [], {}, Odd(), Scheme, Poly(7, [1]))
NO_POLYS = (None, True, 0, "7 : 1", [1], (1,), {}, Odd(), Poly)


def some_words(scheme):
    """Some words of a scheme, zero and those with zeros behind among them."""
    numbers = Numbers(scheme.p + scheme.k)
    rows = [numbers.some(scheme.k, scheme.p) for _ in range(8)]
    return [Poly(scheme.p, row) for row in (*rows, [], [1], [0, 1], [0] * (scheme.k - 1) + [1])]


class Words(Case):
    """Words, their rows and coefficients."""

    def test_is_word(self):
        for scheme in SCHEMES:
            for degree in range(-1, 9):
                word = Poly(scheme.p, [0] * degree + [1] if degree >= 0 else [])
                self.assertIs(is_word(scheme, word), degree < scheme.k)
            for p in (2, 3, 5, 7, 97):
                self.assertIs(is_word(scheme, Poly(p)), p == scheme.p)
            for odd in NO_POLYS:
                self.assertIs(is_word(scheme, odd), False)
            self.assertIs(is_word(scheme, scheme), False)

    def test_rows(self):
        for scheme in SCHEMES:
            for word in some_words(scheme):
                expected = [sum(c * a ** at for at, c in enumerate(word.coefficients)) % scheme.p
                            for a in scheme.places]
                self.gives(row_of, tuple(expected), scheme, word)

    def test_coefficients(self):
        for scheme in SCHEMES:
            for word in some_words(scheme):
                told = coefficients_of(scheme, word)
                self.same((type(told), len(told)), (tuple, scheme.k))
                self.same(told[:word.degree + 1], word.coefficients)
                self.assertFalse(any(told[word.degree + 1:]))

    def test_raises(self):
        word, scheme = Poly(7, [3, 2]), Scheme(7, [1, 2, 4], 2)
        for odd in NO_SCHEMES:
            for call in (row_of, coefficients_of, is_word, word_of):
                self.fails(BadScheme("scheme"), call, odd, word)
                self.fails(BadScheme("scheme"), call, odd, "x")
            self.fails(BadScheme("scheme"), words, odd)
        for odd in NO_POLYS + (Poly(5, [1]), Poly(7, [1, 2, 3]), Poly(2), scheme):
            for call in (row_of, coefficients_of):
                self.fails(BadPoly("word"), call, scheme, odd)


class FromRows(Case):
    """The word of a row."""

    def test_there_and_back(self):
        for scheme in SCHEMES:
            for word in some_words(scheme):
                row = row_of(scheme, word)
                self.same(word_of(scheme, row), word)
                self.same(word_of(scheme, list(row)).coefficients, word.coefficients)

    def test_any_k_places(self):
        for scheme in (SCHEMES[2], SCHEMES[3], Scheme(7, [0, 1, 2, 3, 4, 5, 6], 3)):
            for word in some_words(scheme):
                points = list(zip(scheme.places, row_of(scheme, word)))
                for chosen in combinations(points, scheme.k):
                    self.same(through(scheme.p, chosen), word)

    def test_bent(self):
        for scheme in SCHEMES:
            for word in some_words(scheme)[:4]:
                row = row_of(scheme, word)
                for at in range(len(scheme)):
                    bent = list(row)
                    bent[at] = (bent[at] + 1) % scheme.p
                    if len(scheme) > scheme.k:
                        self.assertIsNone(word_of(scheme, bent))
                    else:
                        self.same(row_of(scheme, word_of(scheme, bent)), tuple(bent))

    def test_all_rows(self):
        for scheme in (Scheme(3, [2, 0, 1], 2), Scheme(5, [1, 4, 3], 2), Scheme(2, [0, 1], 2)):
            with_words = {row_of(scheme, word): word for word in words(scheme)}
            self.assertEqual(len(with_words), scheme.p ** scheme.k)
            for row in product(range(scheme.p), repeat=len(scheme)):
                self.same(word_of(scheme, row), with_words.get(row))

    def test_raises(self):
        scheme = Scheme(7, [1, 2, 4], 2)
        for odd in NO_LISTS + ([], [1, 2], [1, 2, 3, 4], (1,)):
            self.fails(BadReading("row"), word_of, scheme, odd)
        for odd in (*NO_INTEGERS, -1, 7, GREAT):
            self.fails(BadReading("row"), word_of, scheme, [1, odd, 2])
        row = [5, 0, 4]
        word_of(scheme, row)
        self.same(row, [5, 0, 4])


class AllWords(Case):
    """All words, ascending."""

    def test_small(self):
        for p, k in ((2, 2), (3, 2), (3, 3), (5, 2), (5, 4), (7, 3), (47, 2), (53, 2), (13, 3)):
            scheme = Scheme(p, list(range(max(k, 2))), k)
            told = words(scheme)
            self.same(type(told), tuple)
            expected = list(product(range(p), repeat=k))
            self.assertEqual([coefficients_of(scheme, word) for word in told], expected)
            self.assertEqual({word.p for word in told}, {p})

    def test_most(self):
        self.same(len(words(Scheme(53, [0, 1], 2))), 2809)
        for p, k in ((59, 2), (97, 2), (17, 3), (11, 4), (5, 5), (97, 6), (7, 5)):
            self.fails(TooMany("words", 3000), words, Scheme(p, list(range(k)) if k <= p else [], k))
        self.same(len(words(Scheme(7, [0, 1, 2, 3, 4], 4))), 2401)


if __name__ == "__main__":
    unittest.main()
