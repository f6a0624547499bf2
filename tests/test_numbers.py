"""Point 13 and the interface, allnear/numbers.py."""

import unittest

from allnear.check_numbers import shows_numbers
from allnear.errors import BadNumber, BadRests, Beyond
from allnear.numbers import AllNumbers, all_numbers, enough_for, least_worth
from allnear.papers import Denial, Paper
from allnear.rests import Rests
from tests.helper import Case, Numbers
from tests.some_rests import (
    BOOK, FAR, FEW, NO_RESTS, PRIMES, SMALL, glued_numbers, no_worths, numbers_by_trial, pairs_of, spoilt_number,
    worth_of,
)

PAIRS = [(m, d) for m in (1, 2) for d in range(m + 1, 7)]


def sides(rests, worth, m, d):
    """Both sides of what must hold for a worth that is enough by m and d."""
    left = d ** d * 2 ** (d * (d - 1) // 2) * rests.product ** (m * (m + 1)) * rests.most ** (d * (d - 1))
    return left, worth ** (2 * m * d)


def first_by_trial(rests, worth):
    """The first pair by which the worth is enough."""
    for m, d in PAIRS:
        left, right = sides(rests, worth, m, d)
        if left < right:
            return m, d
    return None


def some_worths(rests, seed):
    """Worths for these: both ends, some between, the least that is enough and its neighbours."""
    numbers = Numbers(seed)
    told = [2, 3, rests.product // 2, rests.product - 1, rests.product]
    told += [2 + numbers.below(rests.product - 1) for _ in range(12)]
    least = least_worth(rests)
    if least is not None:
        told += [least - 1, least, least + 1]
    for m, d in PAIRS:
        # Where this pair begins to be enough.
        root = 1
        for step in reversed(range(rests.product.bit_length())):
            left, right = sides(rests, root + 2 ** step, m, d)
            root += 2 ** step * (right <= left)
        told += [root - 1, root, root + 1, root + 2]
    return [worth for worth in told if 2 <= worth <= rests.product]


class Papers(Case):
    """AllNumbers, made of any values."""

    def test_parts(self):
        paper = AllNumbers([3, [4]], [-3, 1], None)
        self.same((paper.word, paper.parts), ("allnumbers", ((3, (4,)), (-3, 1), None)))
        self.same((paper.numbers, paper.polynomial, paper.m), paper.parts)
        named = AllNumbers(m=[2], numbers="x", polynomial={"a": [1]})
        self.same((named.numbers, named.polynomial, named.m), ("x", {"a": [1]}, (2,)))
        self.same(named.parts, ("x", {"a": [1]}, (2,)))
        self.assertTrue(isinstance(paper, Paper) and not isinstance(paper, Denial) and paper)
        self.assertTrue(AllNumbers([], [], 0))

    def test_copied_and_equal(self):
        numbers, polynomial = [1, [2]], [3]
        paper = AllNumbers(numbers, polynomial, 1)
        numbers[1].append(5)
        polynomial.clear()
        self.same(paper.parts, ((1, (2,)), (3,), 1))
        self.assertTrue(paper == AllNumbers((1, (2,)), [3], 1))
        self.assertTrue(paper != AllNumbers((1, (2,)), [3], 2))
        self.assertFalse(paper == Paper("allnumbers", (1, (2,)), (3,), 1) or paper == paper.parts)


class Enough(Case):
    """enough_for and least_worth."""

    def test_both_sides(self):
        pairs = set()
        for seed, rests in enumerate(SMALL + FAR):
            for worth in some_worths(rests, seed):
                told = first_by_trial(rests, worth)
                self.gives(enough_for, told, rests, worth)
                pairs.add(told)
        self.assertGreater(len(pairs), 6)
        self.assertIn(None, pairs)
        self.same(enough_for(worth=17, rests=FEW), (2, 3))

    def test_least(self):
        kinds = set()
        for rests in SMALL + FAR:
            least = least_worth(rests)
            kinds.add(least is None)
            if least is None:
                self.same(first_by_trial(rests, rests.product), None)
            else:
                self.assertTrue(2 <= least <= rests.product)
                self.assertIsNotNone(first_by_trial(rests, least))
                if least > 2:
                    self.same(first_by_trial(rests, least - 1), None)
        self.same(kinds, {True, False})

    def test_least_by_trial(self):
        for rests in SMALL:
            if rests.product < 3000:
                told = [worth for worth in range(2, rests.product + 1) if first_by_trial(rests, worth)]
                self.gives(least_worth, told[0] if told else None, rests)
                self.same(told, list(range(told[0], rests.product + 1)) if told else [])

    def test_nothing_is_enough(self):
        for rests in (Rests([5, 7], [3, 3], 34), Rests(PRIMES[:8], [0] * 8, 9699689), FEW.without(7)):
            self.gives(least_worth, None, rests)
            self.gives(enough_for, None, rests, rests.product)
            self.fails(Beyond(None), all_numbers, rests, rests.product)
            self.fails(Beyond(None), all_numbers, rests, 2)

    def test_raises(self):
        for odd in NO_RESTS:
            for call in (enough_for, all_numbers):
                self.fails(BadRests("rests"), call, odd, 9)
                self.fails(BadRests("rests"), call, odd, 0)
            self.fails(BadRests("rests"), least_worth, odd)
        for rests in (FEW, BOOK, FEW.without(7), FAR[-1]):
            for odd in no_worths(rests):
                for call in (enough_for, all_numbers):
                    self.fails(BadNumber("worth"), call, rests, odd)


class Found(Case):
    """all_numbers."""

    def right(self, rests, worth):
        """The paper, which shows what it tells, by own looks at its polynomial too."""
        text = str(rests)
        paper = all_numbers(rests, worth)
        self.assertIs(type(paper), AllNumbers)
        self.same(shows_numbers(rests, worth, paper), True)
        self.assertTrue(paper == all_numbers(Rests.read(text), worth))
        self.same(str(rests), text)
        self.same([type(one) for one in (*paper.numbers, *paper.polynomial, paper.m)],
                  [int] * (len(paper.numbers) + len(paper.polynomial) + 1))
        self.assertTrue(1 <= paper.m <= 12 and 1 <= len(paper.polynomial) <= 12 and any(paper.polynomial))
        size = sum(abs(one) * rests.most ** power for power, one in enumerate(paper.polynomial))
        self.assertLess(size, worth ** paper.m)
        for number in (0, rests.most, *paper.numbers):
            value = sum(one * number ** power for power, one in enumerate(paper.polynomial))
            self.same(value % worth_of(rests, number) ** paper.m, 0)
        for number in paper.numbers:
            self.assertGreaterEqual(worth_of(rests, number), worth)
        self.same(paper.numbers, tuple(sorted(paper.numbers)))
        return paper

    def test_trial_of_all_numbers(self):
        many = set()
        for seed, rests in enumerate(SMALL):
            for worth in some_worths(rests, seed):
                if first_by_trial(rests, worth) is None:
                    self.fails(Beyond(least_worth(rests)), all_numbers, rests, worth)
                    continue
                told = self.right(rests, worth).numbers
                self.same(told, numbers_by_trial(rests, worth))
                many.add(len(told))
        self.assertLessEqual({0, 1, 2}, many)

    def test_far(self):
        for seed, rests in enumerate(FAR):
            for worth in some_worths(rests, seed):
                if first_by_trial(rests, worth):
                    self.right(rests, worth)
                else:
                    self.fails(Beyond(least_worth(rests)), all_numbers, rests, worth)
            if rests.number <= rests.most and least_worth(rests) is not None:
                self.assertIn(rests.number, self.right(rests, rests.product).numbers)

    def test_spoilt_numbers(self):
        primes = PRIMES[-8:]
        found = 0
        for most in (10 ** 3, 10 ** 6, 10 ** 8, 5 * 10 ** 8):
            for wrong in range(5):
                rests, number = spoilt_number(primes, wrong, most, most + wrong)
                least = least_worth(rests)
                if worth_of(rests, number) >= least:
                    self.assertIn(number, self.right(rests, least).numbers)
                    self.assertIn(number, self.right(rests, worth_of(rests, number)).numbers)
                    found += 1
                else:
                    self.assertNotIn(number, self.right(rests, least).numbers)
        self.assertGreater(found, 8)

    def test_glued_numbers(self):
        told = []
        for most, seed in ((40, 1), (60, 2), (90, 3), (30, 4)):
            rests, chosen = glued_numbers(PRIMES[-8:], most, 2, seed)
            least = least_worth(rests)
            numbers = self.right(rests, least).numbers
            self.same(numbers, tuple(sorted({number for number in chosen if worth_of(rests, number) >= least})))
            told.append(len(numbers))
        self.assertIn(2, told)

    def test_lost_primes(self):
        rests = Rests(PRIMES[-8:], [17, None, 17, None, 17, 17, None, 17], 1000)
        self.same(len(pairs_of(rests)), 5)
        self.same(self.right(rests, least_worth(rests)).numbers, (17,))
        self.same(self.right(rests, rests.product).numbers, (17,))

    def test_below_the_least(self):
        for worth in range(2, 16):
            self.fails(Beyond(16), all_numbers, FEW, worth)
        self.same(all_numbers(worth=16, rests=FEW).numbers, (3,))
        self.fails(Beyond(328987), all_numbers, BOOK, 328986)


if __name__ == "__main__":
    unittest.main()
