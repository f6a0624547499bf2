"""Point 6 and the interface, allnear/terms.py."""

import unittest

from allnear.errors import BadNumber
from allnear.terms import many_conditions, many_terms, span_of, terms_to
from tests.helper import GREAT, NO_INTEGERS, NO_LISTS, Case

NO_K = (*NO_INTEGERS, -2, 0, 1, 7, 8, GREAT, 2.0)


def listed(k, span):
    """The terms to a span by a second way, in no order."""
    return [(i, j) for i in range(span + 1) for j in range(span + 1) if i + (k - 1) * j <= span]


class Spans(Case):
    """span_of."""

    def test_spans(self):
        for k in range(2, 7):
            for i in (0, 1, 2, 69, GREAT):
                for j in (0, 1, 5, 20, GREAT):
                    self.gives(span_of, i + j * (k - 1), k, i, j)
                    self.same(span_of(j=j, i=i, k=k), i + j * (k - 1))

    def test_raises(self):
        for odd in NO_K:
            self.fails(BadNumber("k"), span_of, odd, 0, 0)
            self.fails(BadNumber("k"), span_of, odd, -1, -1)
        for odd in (*NO_INTEGERS, -1, -GREAT):
            self.fails(BadNumber("i"), span_of, 2, odd, 0)
            self.fails(BadNumber("i"), span_of, 6, odd, odd)
            self.fails(BadNumber("j"), span_of, 3, 0, odd)


class Terms(Case):
    """many_terms and terms_to."""

    def test_many(self):
        for k in range(2, 7):
            for span in (*range(0, 40), 99, 100):
                self.gives(many_terms, len(listed(k, span)), k, span)
            for span in range(101, 150):
                self.gives(many_terms, len(listed(k, span)), k, span)
            for span in (-1, -2, -6, -100, -101, -GREAT):
                self.gives(many_terms, 0, k, span)

    def test_far(self):
        for k in range(2, 7):
            for span in (GREAT, GREAT + 1, GREAT + 2, GREAT + 3, GREAT + 4, 10 ** 200):
                # Taken 60 times the greatest k - 1 further, so many terms come as the sum of both ends tells.
                step = 60
                more = many_terms(k, span) - many_terms(k, span - step)
                last = span // (k - 1)
                expected = sum(one // (k - 1) + 1 for one in range(span - step + 1, span + 1))
                self.same(more, expected)
                self.same(2 * many_terms(k, span), (last + 1) * (2 * span + 2 - (k - 1) * last))

    def test_listed(self):
        for k in range(2, 7):
            for span in (*range(0, 30), 99, 100):
                told = terms_to(k, span)
                expected = sorted(listed(k, span), key=lambda term: (term[0] + (k - 1) * term[1], term[1]))
                self.same(told, tuple(expected))
                self.same(len(told), many_terms(k, span))
            for span in (-1, -5, -101, -GREAT):
                self.gives(terms_to, (), k, span)

    def test_raises(self):
        for odd in NO_K:
            for call in (many_terms, terms_to):
                self.fails(BadNumber("k"), call, odd, 3)
                self.fails(BadNumber("k"), call, odd, "x")
        for odd in NO_INTEGERS:
            for call in (many_terms, terms_to):
                self.fails(BadNumber("span"), call, 2, odd)
                self.fails(BadNumber("span"), call, span=odd, k=6)
        for span in (101, 102, 1000, GREAT):
            self.fails(BadNumber("span"), terms_to, 3, span)


class Conditions(Case):
    """many_conditions."""

    def test_conditions(self):
        for times, told in (([], 0), ((), 0), ([0], 0), ([1], 1), ((1, 2, 3, 0), 10), ([16], 136), ([5, 5], 30),
                            ([GREAT], GREAT * (GREAT + 1) // 2), ([1] * 144, 144), (list(range(50)), 20825)):
            self.gives(many_conditions, told, times)
        for times in range(20):
            self.gives(many_conditions, len([1 for i in range(times) for j in range(times) if i + j < times]), [times])

    def test_raises(self):
        for odd in NO_LISTS:
            self.fails(BadNumber("times"), many_conditions, odd)
        for odd in (*NO_INTEGERS, -1, -GREAT):
            self.fails(BadNumber("times"), many_conditions, [odd])
            self.fails(BadNumber("times"), many_conditions, (1, 2, odd, 3))


if __name__ == "__main__":
    unittest.main()
