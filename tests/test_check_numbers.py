"""Point 13 and the interface, allnear/check_numbers.py."""

import unittest

from allnear.check_numbers import shows_numbers
from allnear.errors import BadNumber, BadRests
from allnear.numbers import AllNumbers, all_numbers, enough_for, least_worth
from allnear.papers import Denial, Paper
from allnear.rests import Rests
from tests.helper import GREAT, NO_INTEGERS, NO_LISTS, Case, Numbers, Odd
from tests.some_rests import BOOK, FAR, FEW, NO_RESTS, SMALL, no_worths, numbers_by_trial, pairs_of
from tests.test_roots import product


class Below(AllNumbers):
    """Below AllNumbers: no paper of this class was made by calling AllNumbers."""


def around(row, shift):
    """The row with shift + z put for z, power by power."""
    out = [0] * len(row)
    power = [1]
    for number in row:
        for at, one in enumerate(power):
            out[at] += number * one
        power = product(power, [shift, 1])
    return out


def is_right(rests, worth, numbers, polynomial, m):
    """Whether these parts, of the right kinds, are a right paper: by own looks and trial of all numbers."""
    if not 1 <= m <= 12 or not 1 <= len(polynomial) <= 12 or not any(polynomial):
        return False
    for prime, rest in pairs_of(rests):
        for power, number in enumerate(around(polynomial, rest)):
            if power < m and number % prime ** (m - power):
                return False
    if sum(abs(number) * rests.most ** power for power, number in enumerate(polynomial)) >= worth ** m:
        return False
    return tuple(numbers) == numbers_by_trial(rests, worth)


def shown(rests):
    """Worths that are enough, with their papers."""
    least = least_worth(rests)
    if least is None:
        return []
    worths = sorted({least, (least + rests.product) // 2, rests.product - 1, rests.product})
    return [(worth, all_numbers(rests, worth)) for worth in worths if worth >= least]


class Right(Case):
    """Right papers, as they are told and otherwise."""

    def test_told(self):
        for rests in SMALL + FAR:
            for worth, paper in shown(rests):
                self.gives(shows_numbers, True, rests, worth, paper)
                lists = AllNumbers(list(paper.numbers), list(paper.polynomial), paper.m)
                self.gives(shows_numbers, True, rests, worth, lists)
                self.same(shows_numbers(value=paper, rests=Rests.read(str(rests)), worth=worth), True)

    def test_for_other_worths(self):
        # A polynomial shows it for each worth from which on it is small.
        for rests in SMALL:
            for worth, paper in shown(rests)[:2]:
                for other in sorted({2, worth // 2, worth - 1, worth + 1, rests.product - 1, rests.product}):
                    if 2 <= other <= rests.product:
                        for numbers in (paper.numbers, numbers_by_trial(rests, other)):
                            told = (numbers, paper.polynomial, paper.m)
                            right = is_right(rests, other, *told)
                            self.gives(shows_numbers, right, rests, other, AllNumbers(*told))

    def test_other_polynomials(self):
        for rests in SMALL:
            for worth, paper in shown(rests):
                row, m = list(paper.polynomial), paper.m
                for told, more in ((row + [0], m), ([-one for one in row], m), ([2 * one for one in row], m),
                                   (product(row, row), 2 * m), (product(row, row)[:12], 2 * m), (row, m + 1),
                                   (row, m - 1), (row[::-1], m), ([row[0] + 1, *row[1:]], m), ([0, *row], m),
                                   (row + [1], m)):
                    if more > 0:
                        right = is_right(rests, worth, paper.numbers, told, more)
                        self.gives(shows_numbers, right, rests, worth, AllNumbers(paper.numbers, told, more))

    def test_not_enough_but_shown(self):
        for worth in range(7, 36):
            self.gives(shows_numbers, True, FEW, worth, AllNumbers([3], [-3, 1], 1))
        for worth in range(2, 7):
            self.gives(shows_numbers, False, FEW, worth, AllNumbers([3], [-3, 1], 1))
        self.same(enough_for(FEW, 7), None)
        rests = Rests([5, 7], [3, 3], 34)
        self.same(least_worth(rests), None)
        self.gives(shows_numbers, False, rests, 35, AllNumbers([3], [-3, 1], 1))
        self.gives(shows_numbers, True, Rests([5, 7], [3, 3], 31), 35, AllNumbers([3], [-3, 1], 1))

    def test_each_m(self):
        for m in range(1, 12):
            row = product(*[[-3, 1]] * m)
            self.gives(shows_numbers, True, FEW, 7, AllNumbers([3], row, m))
            self.gives(shows_numbers, False, FEW, 6, AllNumbers([3], row, m))
            for more in range(1, 13):
                told = is_right(FEW, 7, [3], row, more)
                self.gives(shows_numbers, told, FEW, 7, AllNumbers([3], row, more))
        # 35 to the power 12, alone, is divisible twelve times, but below no such power of a worth.
        self.gives(shows_numbers, False, FEW, 35, AllNumbers([], [35 ** 12], 12))
        self.gives(shows_numbers, False, FEW, 7, AllNumbers([3], product(*[[-3, 1]] * 12), 12))

    def test_m_of_twelve(self):
        # Of twelve coefficients, divisible twelve times: a factor that the rests share stands for the last one.
        rests = Rests([2, 97], [0, 0], 1)
        row = [0] * 11 + [2 * 97]
        self.gives(shows_numbers, True, rests, 97 * 2, AllNumbers([0], row, 12))
        self.gives(shows_numbers, False, rests, 97 * 2, AllNumbers([0], row, 13))
        # Divisible thirteen times, and small: but no m is greater than 12.
        row = [0] * 11 + [(2 * 97) ** 2]
        for m in range(1, 15):
            self.gives(shows_numbers, 3 <= m <= 12, rests, 97 * 2, AllNumbers([0], row, m))
            self.same(is_right(rests, 97 * 2, [0], row, m), 3 <= m <= 12)
        row = [0] * 11 + [2 * 97]
        self.gives(shows_numbers, False, rests, 97 * 2, AllNumbers([0], [0] * 11 + [97], 12))
        self.gives(shows_numbers, False, rests, 97 * 2, AllNumbers([0], row + [0], 12))


class NotRight(Case):
    """Papers that are not."""

    def test_numbers(self):
        for rests in SMALL:
            for worth, paper in shown(rests):
                numbers, rest = paper.numbers, (paper.polynomial, paper.m)
                told = [numbers + (rests.most,), (0,) + numbers, numbers + numbers, numbers[::-1], numbers[1:],
                        numbers[:-1], numbers + (rests.most + 1,), (-1,) + numbers, [one + 1 for one in numbers],
                        (numbers,)]
                for odd in told:
                    if tuple(odd) != numbers:
                        self.gives(shows_numbers, False, rests, worth, AllNumbers(odd, *rest))
                for odd in (*NO_LISTS, *NO_INTEGERS):
                    if odd not in ([], ()):
                        self.gives(shows_numbers, False, rests, worth, AllNumbers(odd, *rest))

    def test_two_numbers(self):
        paper = all_numbers(BOOK, 328987)
        self.same(paper.numbers, (8, 19))
        for odd in ((8,), (19,), (), (19, 8), (8, 8, 19), (8, 19, 19), (8, 19, 30), (0, 8, 19), (8, 20), ((8, 19),),
                    (8, 19.0), ("8", "19"), "819", None, 8, {8: 19}):
            self.gives(shows_numbers, False, BOOK, 328987, AllNumbers(odd, paper.polynomial, paper.m))
        self.gives(shows_numbers, True, BOOK, 328987, AllNumbers([8, 19], paper.polynomial, paper.m))

    def test_true_and_false(self):
        one = Rests([5, 7], [1, 1], 3)
        none = Rests([5, 7], [0, 0], 3)
        for rests, number, odd, row in ((one, 1, True, [-1, 1]), (none, 0, False, [0, 1])):
            self.gives(shows_numbers, True, rests, 7, AllNumbers([number], row, 1))
            self.gives(shows_numbers, False, rests, 7, AllNumbers([odd], row, 1))
            self.gives(shows_numbers, False, rests, 7, AllNumbers([number], row, True))
            self.gives(shows_numbers, False, rests, 7, AllNumbers([number], [row[0], True], 1))
        self.gives(shows_numbers, False, none, 7, AllNumbers([0], [False, 1], 1))
        self.gives(shows_numbers, False, one, 7, AllNumbers([1.0], [-1, 1], 1))

    def test_m(self):
        for odd in (*NO_INTEGERS, 0, -1, 13, 14, GREAT, -GREAT):
            self.gives(shows_numbers, False, FEW, 7, AllNumbers([3], [-3, 1], odd))
            self.gives(shows_numbers, False, FEW, 7, AllNumbers([3], [0, 0, 0], odd))

    def test_polynomials(self):
        for odd in (*NO_LISTS, *NO_INTEGERS, [], [0], [0] * 12, [-3, 1] + [0] * 11, [1] * 13, [[-3, 1]], [-3, [1]],
                    [-3, True], [-3.0, 1], ["-3", "1"], [-3, None]):
            for m in (1, 2, 12):
                self.gives(shows_numbers, False, FEW, 7, AllNumbers([3], odd, m))
                self.gives(shows_numbers, False, FEW, 7, AllNumbers([], odd, m))
        self.gives(shows_numbers, True, FEW, 7, AllNumbers([3], [-3, 1] + [0] * 10, 1))

    def test_great_coefficients(self):
        for row in ([10 ** 5000], [-3 * 10 ** 5000, 10 ** 5000], [0] * 11 + [-10 ** 5000]):
            for m in (1, 12):
                self.gives(shows_numbers, False, FEW, 7, AllNumbers([3], row, m))
                self.gives(shows_numbers, False, FEW, 35, AllNumbers([], row, m))

    def test_drawn_polynomials(self):
        numbers = Numbers(90)
        rights = 0
        rests = [FEW, Rests([2, 3], [1, 2], 1), Rests([5, 7, 3], [2, 2, None], 2), Rests([11, 5], [1, 1], 4)]
        for _ in range(1500):
            told = rests[numbers.below(len(rests))]
            worth = 2 + numbers.below(told.product - 1)
            row = [numbers.below(7) - 3 for _ in range(1 + numbers.below(3))]
            row = product(row, [-told.number, 1]) if numbers.below(2) else row
            m = 1 + numbers.below(2)
            found = numbers_by_trial(told, worth)
            right = is_right(told, worth, found, row, m)
            rights += right
            self.gives(shows_numbers, right, told, worth, AllNumbers(found, row, m))
        self.assertGreater(rights, 50)

    def test_other_values(self):
        parts = ((3,), (-3, 1), 1)
        for odd in (None, True, False, 0, "allnumbers", (), parts, list(parts), {}, Odd(), AllNumbers, Below(*parts),
                    Paper("allnumbers", *parts), Denial("allnumbers", *parts), FEW, AllNumbers(None, None, None),
                    AllNumbers((), (), ()), AllNumbers(parts, parts, parts)):
            for worth in (7, 16, 35):
                self.gives(shows_numbers, False, FEW, worth, odd)

    def test_raises(self):
        paper = AllNumbers([3], [-3, 1], 1)
        for value in (paper, None, AllNumbers(None, None, None)):
            for odd in NO_RESTS:
                self.fails(BadRests("rests"), shows_numbers, odd, 7, value)
                self.fails(BadRests("rests"), shows_numbers, odd, 0, value)
            for rests in (FEW, BOOK, FAR[-1]):
                for odd in no_worths(rests):
                    self.fails(BadNumber("worth"), shows_numbers, rests, odd, value)


if __name__ == "__main__":
    unittest.main()
