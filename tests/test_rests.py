"""Point 13 and the interface, allnear/rests.py."""

import unittest

from allnear.errors import BadNumber, BadRests, NoPrime, Twice
from allnear.papers import Paper
from allnear.rests import Rests
from tests.helper import GREAT, NO_INTEGERS, NO_LISTS, Case, Numbers, Odd
from tests.some_rests import BOOK, FAR, FEW, PRIMES, SMALL, pairs_of, product_of, right_primes, some_rests, worth_of

NO_PRIMES = (*NO_INTEGERS, 0, 1, 4, 9, 91, 98, 101, -5, GREAT, 5.0, "5", (5,))


def state(rests):
    """All that is told of rests."""
    return (rests.primes, rests.rests, rests.most, rests.product, rests.number, str(rests))


def some_numbers(rests, seed):
    """Numbers from 0 to most: both ends, the one of all rests, some more."""
    numbers = Numbers(seed)
    told = [0, 1, rests.most, rests.most // 2, *[numbers.below(rests.most + 1) for _ in range(20)]]
    return told + [rests.number] * (rests.number <= rests.most) + [rest for _, rest in pairs_of(rests)
                                                                   if rest <= rests.most]


class Below(Rests):
    """Another class, with the same attributes."""


class Made(Case):
    """What makes Rests, and what does not."""

    def test_attributes(self):
        for rests in SMALL + FAR:
            told = [prime for prime, _ in pairs_of(rests)]
            self.same(rests.product, product_of(told))
            self.assertTrue(0 <= rests.number < rests.product)
            self.same([rests.number % prime for prime in told], [rest for _, rest in pairs_of(rests)])
            self.same((type(rests.primes), type(rests.rests), type(rests.most)), (tuple, tuple, int))

    def test_the_number_by_trial(self):
        numbers = Numbers(80)
        for _ in range(30):
            primes = numbers.pick(PRIMES[:9], 3)
            told = [numbers.below(prime) if numbers.below(5) else None for prime in primes]
            if any(rest is not None for rest in told):
                rests = Rests(primes, told, 1)
                fits = [number for number in range(rests.product) if right_primes(rests, number)
                        == tuple(prime for prime, _ in pairs_of(rests))]
                self.same([rests.number], fits)

    def test_copied(self):
        primes, told = [5, 7, 11], [3, None, 0]
        rests = Rests(primes, told, 20)
        primes.append(13)
        told[1] = 2
        self.same(state(rests), ((5, 7, 11), (3, None, 0), 20, 55, 33, "20 : 5 3 / 7 - / 11 0"))
        self.assertTrue(rests == Rests(rests=(3, None, 0), most=20, primes=(5, 7, 11)))

    def test_primes(self):
        for odd in (*NO_LISTS, [], [5], (5,), PRIMES[:9], PRIMES):
            self.fails(BadRests("primes"), Rests, odd, [1, 1], 3)
            self.fails(BadRests("primes"), Rests, odd, None, 0)
        for odd in NO_PRIMES:
            self.fails(BadRests("primes"), Rests, [5, odd], [1, 1], 3)
            self.fails(BadRests("primes"), Rests, (odd, 5, 5), [1], 0)
        for many in range(2, 9):
            self.same(len(Rests(PRIMES[:many], [0] * many, 1).primes), many)

    def test_twice(self):
        for primes, prime in (([5, 5], 5), ([5, 7, 5, 7], 5), ((2, 97, 11, 97, 2), 97), ([3] * 8, 3)):
            self.fails(Twice(prime), Rests, primes, [1] * len(primes), 1)
            self.fails(Twice(prime), Rests, primes, None, None)

    def test_rests(self):
        for odd in (*NO_LISTS, [], [1], [1, 1, 1], [1, [1]], ((1, 1),)):
            self.fails(BadRests("rests"), Rests, [5, 7], odd, 3)
            self.fails(BadRests("rests"), Rests, [5, 7], odd, None)
        for odd in (*NO_INTEGERS, -1, 5, GREAT, -GREAT):
            if odd is not None:
                self.fails(BadRests("rests"), Rests, [5, 7], [odd, 1], 3)
                self.fails(BadRests("rests"), Rests, [7, 5], (None, odd), 0)
        self.fails(BadRests("rests"), Rests, [5, 7], [6, 4], 3)
        self.same(Rests([7, 5], [6, 4], 3).rests, (6, 4))

    def test_most(self):
        for odd in (*NO_INTEGERS, 0, -1, 35, 36, GREAT, -GREAT):
            self.fails(BadNumber("most"), Rests, [5, 7], [3, 3], odd)
        for most in (1, 2, 34):
            self.same(Rests([5, 7], [3, 3], most).most, most)
        self.fails(BadNumber("most"), Rests, [5, 7], [3, None], 5)
        self.same(Rests([5, 7], [3, None], 4).product, 5)
        self.fails(BadNumber("most"), Rests, [5, 7], [None, 0], 7)
        for most in (0, 1, 2):
            self.fails(BadNumber("most"), Rests, [5, 7], [None, None], most)

    def test_equal(self):
        for rests in SMALL:
            self.assertTrue(rests == Rests(list(rests.primes), list(rests.rests), rests.most))
            self.assertFalse(rests != Rests(rests.primes, rests.rests, rests.most))
        told = Rests([5, 7, 11], [3, 3, 3], 30)
        for other in (Rests([5, 7, 11], [3, 3, 3], 31), Rests([5, 7, 11], [3, 3, None], 30),
                      Rests([7, 5, 11], [3] * 3, 30), Rests([5, 7, 13], [3, 3, 3], 30),
                      Rests([5, 7, 11], [3, 3, 4], 30), Rests([5, 7], [3, 3], 30)):
            self.assertFalse(told == other)
            self.assertTrue(other != told)
        for other in (None, True, "3 : 5 3 / 7 3", ((5, 7), (3, 3), 3), [FEW], Odd(), Paper("rests"),
                      Below([5, 7], [3, 3], 3)):
            self.assertIs(FEW == other, False)
            self.assertIs(other == FEW, False)
            self.assertIs(FEW != other, True)

    def test_listed(self):
        for name in ("worth", "right", "with_rest", "without", "read", "__str__", "__eq__"):
            self.assertIn(name, vars(Rests))


class Numbered(Case):
    """worth and right."""

    def test_own_division(self):
        for seed, rests in enumerate(SMALL + FAR):
            ahead = state(rests)
            for number in some_numbers(rests, seed):
                self.gives(rests.right, right_primes(rests, number), number)
                self.gives(rests.worth, worth_of(rests, number), number)
            self.same(state(rests), ahead)

    def test_told_order(self):
        rests = Rests([7, 5, 3, 2], [3, 3, 0, None], 90)
        self.same((rests.right(3), rests.right(73), rests.right(6)), ((7, 5, 3), (7, 5), (3,)))
        self.same((rests.worth(number=3), rests.right(number=1), rests.worth(1)), (105, (), 1))

    def test_raises(self):
        for rests in (FEW, BOOK):
            for odd in (*NO_INTEGERS, -1, rests.most + 1, rests.product, GREAT, -GREAT):
                self.fails(BadNumber("number"), rests.worth, odd)
                self.fails(BadNumber("number"), rests.right, odd)


class Changed(Case):
    """with_rest and without."""

    def test_each_rest(self):
        for rests in SMALL:
            ahead = state(rests)
            for at, prime in enumerate(rests.primes):
                for rest in {0, 1, prime - 1, prime // 2}:
                    told = rests.with_rest(prime, rest)
                    expected = [*rests.rests[:at], rest, *rests.rests[at + 1:]]
                    self.assertTrue(told == Rests(rests.primes, expected, rests.most))
                    self.same(told.product % prime, 0)
            self.same(state(rests), ahead)

    def test_struck_and_put_back(self):
        for rests in SMALL + FAR:
            ahead = state(rests)
            for at, prime in enumerate(rests.primes):
                told = [*rests.rests[:at], None, *rests.rests[at + 1:]]
                left = product_of([one for one, rest in zip(rests.primes, told) if rest is not None])
                if left <= rests.most:
                    self.fails(BadNumber("most"), rests.without, prime)
                    continue
                less = rests.without(prime)
                self.assertTrue(less == Rests(rests.primes, told, rests.most))
                self.assertTrue(less.without(prime) == less)
                if rests.rests[at] is not None:
                    self.assertTrue(less.with_rest(prime, rests.rests[at]) == rests)
            self.same(state(rests), ahead)

    def test_lost_is_never_right(self):
        less = FEW.without(7)
        self.same((less.right(3), less.right(0), less.worth(3), less.product, less.number), ((5,), (), 5, 5, 3))
        self.same(less.with_rest(rest=4, prime=7).number, 18)

    def test_most(self):
        rests = Rests([5, 7, 11], [3, 3, 3], 34)
        self.fails(BadNumber("most"), rests.without(11).without, 5)
        self.fails(BadNumber("most"), rests.without(11).without, 7)
        self.fails(BadNumber("most"), Rests([5, 7, 11], [3, 3, 3], 35).without, 11)
        self.same(Rests([5, 7, 11], [3, 3, 3], 54).without(7).product, 55)
        self.fails(BadNumber("most"), FEW.without(5).without, 7)

    def test_raises(self):
        for odd in (*NO_PRIMES, 2, 3, 11, 97):
            for rests in (FEW, FEW.without(5)):
                self.fails(NoPrime(odd), rests.with_rest, odd, 3)
                self.fails(NoPrime(odd), rests.with_rest, odd, -1)
                self.fails(NoPrime(odd), rests.without, odd)
        for odd in (*NO_INTEGERS, -1, 5, GREAT, -GREAT):
            self.fails(BadNumber("rest"), FEW.with_rest, 5, odd)
        self.fails(BadNumber("rest"), FEW.with_rest, 7, 7)
        self.same(state(FEW), ((5, 7), (3, 3), 3, 35, 3, "3 : 5 3 / 7 3"))


class Drawn(Case):
    """Rests drawn of all primes."""

    def test_all_primes(self):
        numbers = Numbers(81)
        for _ in range(40):
            many = 2 + numbers.below(7)
            rests = some_rests(numbers.pick(PRIMES, many), numbers.below(many), 1, numbers.below(1000))
            for prime in rests.primes:
                again = rests.with_rest(prime, numbers.below(prime))
                self.same(again.number % prime, dict(pairs_of(again))[prime])
                self.same(again.product % rests.product, 0)


if __name__ == "__main__":
    unittest.main()
