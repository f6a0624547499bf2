"""Point 12 and the interface, allnear/rows.py."""

import itertools
import unittest
from fractions import Fraction

from allnear.errors import BadRows
from allnear.rows import determinant, reduced
from tests.helper import NO_INTEGERS, NO_LISTS, Case, Numbers

MOST = 10 ** 40 - 1


def some_rows(size, bound, seed):
    """Rows of integers from -bound to bound."""
    numbers = Numbers(seed)
    return [[numbers.below(2 * bound + 1) - bound for _ in range(size)] for _ in range(size)]


def great(numbers, digits):
    """An integer of so many digits, at most."""
    out = 0
    for _ in range(digits):
        out = 10 * out + numbers.below(10)
    return out


def by_orders(rows):
    """The determinant by all orders of the places: one number of each row, with the sign of the order."""
    total = 0
    for order in itertools.permutations(range(len(rows))):
        part = -1 if sum(one > two for one, two in itertools.combinations(order, 2)) % 2 else 1
        for row, at in zip(rows, order):
            part *= row[at]
        total += part
    return total


def by_the_rule(rows):
    """The determinant as point 12 tells it."""
    if len(rows) == 1:
        return rows[0][0]
    total = 0
    for at, number in enumerate(rows[0]):
        others = [list(row[:at]) + list(row[at + 1:]) for row in rows[1:]]
        total += number * by_the_rule(others) * (-1 if at % 2 else 1)
    return total


def times_of(rows, told):
    """How many times each of the rows goes into each of those told: x with x times rows = told, by fractions."""
    size = len(rows)
    # The columns of rows are the left sides, the numbers of the told rows the right ones.
    table = [[Fraction(rows[row][at]) for row in range(size)] + [Fraction(one[at]) for one in told]
             for at in range(size)]
    for at in range(size):
        lead = next(row for row in range(at, size) if table[row][at])
        table[at], table[lead] = table[lead], table[at]
        table[at] = [one / table[at][at] for one in table[at]]
        for row in range(size):
            if row != at and table[row][at]:
                table[row] = [one - table[row][at] * two for one, two in zip(table[row], table[at])]
    return [one for row in table for one in row[size:]]


def are_whole_sums(rows, told):
    """Whether each of the rows told is a whole sum of the rows."""
    return all(one.denominator == 1 for one in times_of(rows, told))


def square(row):
    return sum(one * one for one in row)


ROWS = [some_rows(size, bound, seed) for size in range(1, 7) for seed, bound in enumerate((1, 2, 9, 1000, 10 ** 12))]
ROWS += [[[great(Numbers(seed + row * 9 + at), 40) * (-1) ** (row + at) for at in range(size)] for row in range(size)]
         for seed, size in enumerate((1, 2, 3, 4, 5, 6))]
FREE = [rows for rows in ROWS if by_orders(rows)]


def with_a_great_first(size, seed, digits=40):
    """Rows of determinant 1 less than ten to the power, whose shortest sum is far shorter than they are."""
    numbers = Numbers(seed)
    rows = [[10 ** digits - 1] + [0] * (size - 1)]
    return rows + [[great(numbers, digits)] + [int(row == at) for at in range(1, size)] for row in range(1, size)]


def mixed(size, seed):
    """Rows of determinant 1 or -1, made of the plainest ones by steps."""
    numbers = Numbers(seed)
    rows = [[int(row == at) for at in range(size)] for row in range(size)]
    for _ in range(400):
        one, two = numbers.pick(range(size), 2)
        times = numbers.below(5) - 2
        made = [a + times * b for a, b in zip(rows[one], rows[two])]
        if max(map(abs, made)) <= MOST:
            rows[one] = made
    return rows


class Determinants(Case):
    """determinant."""

    def test_second_ways(self):
        for rows in ROWS:
            kept = [list(row) for row in rows]
            self.gives(determinant, by_the_rule(rows), rows)
            self.gives(determinant, by_orders(rows), tuple(tuple(row) for row in rows))
            self.same(rows, kept)
        self.assertGreater(len(FREE), 30)
        self.same(determinant(rows=[[3]]), 3)

    def test_one_row(self):
        for number in (0, 1, -7, MOST, -MOST):
            self.gives(determinant, number, [[number]])

    def test_steps(self):
        for rows in FREE:
            if len(rows) > 1 and max(abs(one) for row in rows for one in row) < 10 ** 13:
                plain = determinant(rows)
                self.gives(determinant, -plain, [rows[1], rows[0], *rows[2:]])
                added = [one + 10 ** 9 * two for one, two in zip(rows[-1], rows[0])]
                self.gives(determinant, plain, [*rows[:-1], added])
                self.gives(determinant, plain, [list(column) for column in zip(*rows)])

    def test_hanging(self):
        for size in range(2, 7):
            rows = some_rows(size, 50, size)
            rows[-1] = [one - 3 * two for one, two in zip(rows[0], rows[-2])]
            self.gives(determinant, 0, rows)
            self.fails(BadRows("hang"), reduced, rows)
            self.gives(determinant, 0, [[0] * size] * size)
            self.fails(BadRows("hang"), reduced, [[0] * size] + some_rows(size, 50, size)[1:])
            self.fails(BadRows("hang"), reduced, [[row[0]] * size for row in some_rows(size, 50, size)])
        self.fails(BadRows("hang"), reduced, [[0]])


class Reduced(Case):
    """reduced."""

    def right(self, rows):
        kept = [list(row) for row in rows]
        told = reduced(rows)
        size = len(rows)
        self.same(rows, kept)
        self.same((type(told), [type(row) for row in told]), (tuple, [tuple] * size))
        self.same([[type(one) for one in row] for row in told], [[int] * size] * size)
        self.assertTrue(are_whole_sums(rows, told))
        self.assertTrue(are_whole_sums(told, rows))
        self.same(abs(by_orders(told)), abs(by_orders(rows)))
        self.assertTrue(any(told[0]))
        self.assertLessEqual(square(told[0]) ** size, 2 ** (size * (size - 1) // 2) * by_orders(rows) ** 2)
        self.same(reduced(tuple(tuple(row) for row in kept)), told)
        return told

    def test_right(self):
        for rows in FREE:
            self.right(rows)

    def test_other_orders(self):
        for rows in FREE:
            self.right(rows[::-1])
            self.right(rows[1:] + rows[:1])

    def test_many_times_added(self):
        for rows in FREE:
            if len(rows) > 1 and max(abs(one) for row in rows for one in row) < 10 ** 13:
                for at in range(len(rows) - 1):
                    added = [one + 10 ** 25 * two for one, two in zip(rows[at], rows[at + 1])]
                    self.right([*rows[:at], added, *rows[at + 1:]])
                    self.right([*rows[at:], *rows[:at]])

    def test_far_from_short(self):
        for size in range(2, 7):
            for seed in range(4):
                rows = with_a_great_first(size, seed)
                told = self.right(rows)
                self.assertLess(max(abs(one) for one in told[0]), 10 ** 21)
                self.right(rows[::-1])
                rows = mixed(size, seed)
                self.assertGreater(max(abs(one) for row in rows for one in row), 10 ** 12)
                # The determinant is 1 or -1: the square is at most the root of 2 to the power d - 1, that is 5.
                self.assertLess(square(self.right(rows)[0]), 6)

    def test_tight(self):
        # Two rows at 60 degrees or less: the bound leaves nothing but a shortest one.
        for rows in ([[5, 0], [2, 1]], [[1, 0], [1000, 1]], [[4, 1], [9, 2]], [[13, 21], [8, 13]], [[0, 3], [3, 100]]):
            shortest = min(square((a * rows[0][0] + b * rows[1][0], a * rows[0][1] + b * rows[1][1]))
                           for a in range(-200, 201) for b in range(-200, 201) if (a, b) != (0, 0))
            self.same(square(self.right(rows)[0]), shortest)

    def test_hardly_too_long(self):
        # The first row is longer than is told by little, so they have to change places.
        for rows in ([[10, 0], [5, 6]], [[100, 0], [50, 62]], [[1000, 0], [500, 660]],
                     [[10 ** 9, 0], [5 * 10 ** 8, 7 * 10 ** 8]]):
            self.assertGreater(square(rows[0]) ** 2, 2 * by_orders(rows) ** 2)
            self.assertLess(square(self.right(rows)[0]), square(rows[0]))
        for seed in range(300):
            numbers = Numbers(1000 + seed)
            for size in (2, 3):
                rows = [[0] * size for _ in range(size)]
                for at in range(size):
                    # Each row lies half along the one ahead; what is left of it is between half and all of that.
                    rows[at][at] = 10 ** 6 * (60 + numbers.below(20)) ** at // 100 ** at
                    rows[at][:at] = rows[at - 1][:at - 1] + [rows[at - 1][at - 1] // 2] if at else []
                self.right(rows)

    def test_one_row(self):
        for number in (1, -7, MOST, -MOST):
            self.same(abs(reduced(rows=[[number]])[0][0]), abs(number))


class Wrong(Case):
    """BadRows("rows")."""

    def both(self, odd):
        for call in (determinant, reduced):
            self.fails(BadRows("rows"), call, odd)

    def test_no_lists(self):
        for odd in NO_LISTS:
            self.both(odd)
            self.both([odd])
            self.both([[1, 2], odd])
        for odd in NO_INTEGERS:
            self.both([[odd]])
            self.both([[1, 0], [odd, 1]])
            self.both(((1, 0), (0, odd)))
            self.both([[0, 0], [0, odd]])

    def test_sizes(self):
        for odd in ([], (), [[]], [[1, 2]], [[1], [2]], [[1, 2], [3]], [[1], [2, 3]], [[1, 2], [3, 4, 5]],
                    [[1, 2, 3]] * 2, [[1, 0], [0, 1], [1, 1]], [[1] * 7] * 6, [[1] * 6] * 7, [[[1]]],
                    [[int(row == at) for at in range(7)] for row in range(7)]):
            self.both(odd)

    def test_digits(self):
        for digits in (41, 42, 60, 61, 999, 1001, 5000):
            for sign in (1, -1):
                self.both([[sign * 10 ** (digits - 1)]])
                self.both([[1, 0], [0, sign * (10 ** digits - 1)]])
                self.both([[0, 0], [0, sign * 10 ** (digits - 1)]])
        for sign in (1, -1):
            self.gives(determinant, MOST * sign, [[1, 0], [0, MOST * sign]])
            self.gives(determinant, 10 ** 39 * sign, [[sign * 10 ** 39]])
            self.right_still([[MOST * sign, 0], [MOST - 1, MOST]])

    def right_still(self, rows):
        self.assertTrue(are_whole_sums(rows, reduced(rows)))


if __name__ == "__main__":
    unittest.main()
