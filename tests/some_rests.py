"""Rests that several tests look at, and what is told of them, worked out by plain division."""

from allnear.rests import Rests
from tests.helper import GREAT, NO_INTEGERS, Numbers, Odd

PRIMES = [p for p in range(2, 98) if all(p % q for q in range(2, p))]
BOOK = Rests.read("30 : 11 8 / 29 8 / 31 8 / 43 8 / 53 19 / 73 19 / 89 19 / 97 19")
FEW = Rests([5, 7], [3, 3], 3)


def product_of(numbers):
    """All of them multiplied."""
    out = 1
    for number in numbers:
        out *= number
    return out


def pairs_of(rests):
    """The primes that have a rest, with it."""
    return [(prime, rest) for prime, rest in zip(rests.primes, rests.rests) if rest is not None]


def right_primes(rests, number):
    """The primes at which a number is right, by division."""
    return tuple(prime for prime, rest in pairs_of(rests) if divmod(number, prime)[1] == rest)


def worth_of(rests, number):
    """The worth of a number."""
    return product_of(right_primes(rests, number))


def numbers_by_trial(rests, worth):
    """All numbers of this worth or more, by trial of all."""
    return tuple(number for number in range(rests.most + 1) if worth_of(rests, number) >= worth)


def some_rests(primes, lost, most, seed):
    """Rests with so many of them lost; most is bounded by the product."""
    numbers = Numbers(seed)
    away = numbers.pick(primes, lost)
    told = [None if prime in away else numbers.below(prime) for prime in primes]
    return Rests(primes, told, min(most, product_of([prime for prime in primes if prime not in away]) - 1))


def spoilt_number(primes, wrong, most, seed):
    """Rests of a number, so many of them changed, and the number."""
    numbers = Numbers(seed)
    number = numbers.below(most + 1)
    away = numbers.pick(primes, wrong)
    told = [(number + 1 + numbers.below(prime - 1)) % prime if prime in away else number % prime for prime in primes]
    return Rests(primes, told, most), number


def glued_numbers(primes, most, many, seed):
    """Rests that have those of several numbers by turns, and these numbers."""
    numbers = Numbers(seed)
    chosen = numbers.some(many, most + 1)
    return Rests(primes, [chosen[at % many] % prime for at, prime in enumerate(primes)], most), chosen


SMALL = (
    [FEW, BOOK, BOOK.without(11), BOOK.without(11).without(97), Rests([2, 3], [1, 2], 1), Rests([2, 3], [0, 0], 5),
     Rests((3, 2), (None, 1), 1), Rests([97, 89], [96, 0], 8632)]
    + [some_rests(Numbers(seed).pick(PRIMES, many), lost, most, seed) for seed, (many, lost, most) in enumerate((
        (2, 0, 1), (2, 0, 10), (3, 0, 10), (3, 1, 1), (4, 0, 100), (4, 1, 20), (5, 0, 50), (5, 2, 300), (6, 0, 1000),
        (7, 0, 5), (7, 3, 200), (8, 0, 1), (8, 0, 40), (8, 4, 900), (8, 0, 1500)))]
    + [spoilt_number(Numbers(seed).pick(PRIMES[5:], many), wrong, most, seed)[0]
       for seed, (many, wrong, most) in enumerate(((4, 0, 30), (4, 1, 30), (6, 2, 100), (8, 3, 1000), (8, 4, 50)))]
    + [glued_numbers(PRIMES[-8:], most, many, seed)[0] for seed, (most, many) in enumerate((
        (30, 2), (300, 2), (20, 3), (1000, 2), (9, 4)))]
)
FAR = [some_rests(PRIMES[-8:], 0, most, seed) for seed, most in enumerate((
    10 ** 4, 10 ** 6, 10 ** 8, 10 ** 9, 10 ** 12, 10 ** 15, 10 ** 30))]
NO_RESTS = (None, True, 3, "3 : 5 3 / 7 3", (5, 7), [], (), {}, Odd(), Rests, [FEW], ((5, 7), (3, 3), 3))


def no_worths(rests):
    """What is no worth for these."""
    return (*NO_INTEGERS, 1, 0, -2, rests.product + 1, -rests.product, GREAT, -GREAT)
