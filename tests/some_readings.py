"""Readings that several tests look at."""

from allnear.readings import Reading
from allnear.schemes import Scheme
from tests.helper import GREAT, NO_INTEGERS, Numbers, Odd


def some_reading(p, many, k, offers, seed, most=3):
    """A reading with so many offers, at any places, of weights to a greatest one."""
    numbers = Numbers(seed)
    scheme = Scheme(p, numbers.pick(range(p), many), k)
    chosen = numbers.pick([(at, value) for at in range(many) for value in range(p)], offers)
    return Reading(scheme, [[(value, 1 + numbers.below(most)) for place, value in chosen if place == at]
                            for at in range(many)])


def some_plain(p, many, k, lost, seed):
    """A plain reading, so many of its places lost."""
    numbers = Numbers(seed)
    scheme = Scheme(p, numbers.pick(range(p), many), k)
    away = numbers.pick(range(many), lost)
    return Reading.plain(scheme, [None if at in away else numbers.below(p) for at in range(many)])


def spoilt_word(p, many, k, wrong, seed):
    """A plain reading of a word, so many values of it changed."""
    numbers = Numbers(seed)
    scheme = Scheme(p, numbers.pick(range(p), many), k)
    word, away = numbers.some(k, p), numbers.pick(range(many), wrong)
    row = [sum(sign * place ** power for power, sign in enumerate(word)) % p for place in scheme.places]
    return Reading.plain(scheme, [(value + 1 + numbers.below(p - 1)) % p if at in away else value
                                  for at, value in enumerate(row)])


def two_words(p, many, k, seed, lost=0):
    """A reading that has the values of one word and of another one by turns, some with weight 2."""
    numbers = Numbers(seed)
    scheme = Scheme(p, numbers.pick(range(p), many), k)
    words = numbers.some(k, p), numbers.some(k, p)
    offers = []
    for at, place in enumerate(scheme.places):
        sign = sum(one * place ** power for power, one in enumerate(words[at % 2])) % p
        offers.append([] if at < lost else [(sign, 1 + at % 3 // 2)])
    return Reading(scheme, offers)


SMALL = (
    [some_plain(p, many, k, lost, seed) for seed, (p, many, k, lost) in enumerate((
        (2, 2, 2, 0), (2, 2, 2, 2), (3, 3, 2, 0), (3, 3, 3, 1), (5, 5, 2, 0), (5, 5, 2, 2), (5, 4, 3, 0), (5, 5, 4, 0),
        (7, 7, 2, 0), (7, 7, 3, 1), (7, 6, 2, 3), (5, 5, 5, 0), (5, 5, 5, 5)))]
    + [some_reading(p, many, k, offers, seed) for seed, (p, many, k, offers) in enumerate((
        (2, 2, 2, 1), (2, 2, 2, 4), (3, 3, 2, 5), (3, 3, 2, 9), (3, 2, 2, 6), (3, 3, 3, 4), (5, 5, 2, 7), (5, 5, 3, 12),
        (5, 5, 2, 24), (7, 7, 2, 12), (7, 5, 3, 9), (5, 2, 2, 3), (7, 7, 3, 24)))]
    + [spoilt_word(p, many, k, wrong, seed) for seed, (p, many, k, wrong) in enumerate((
        (5, 5, 2, 1), (5, 5, 2, 2), (7, 7, 2, 2), (7, 7, 2, 4), (7, 7, 3, 1), (7, 7, 3, 3), (11, 11, 2, 5),
        (13, 13, 2, 7), (7, 7, 4, 1)))]
    + [two_words(p, many, k, seed, lost) for seed, (p, many, k, lost) in enumerate((
        (5, 5, 2, 0), (7, 7, 2, 0), (7, 7, 2, 2), (7, 7, 3, 0), (11, 11, 2, 0), (13, 12, 2, 0), (11, 11, 3, 1)))]
)
GREATER = (
    [some_reading(97, 16, k, 24, k) for k in range(2, 7)]
    + [some_reading(97, 16, k, 24, 9, 1) for k in (2, 6)]
    + [spoilt_word(97, 16, k, wrong, k) for k, wrong in ((2, 11), (3, 9), (4, 7), (5, 6), (6, 4))]
    + [two_words(53, 16, k, k) for k in (2, 3, 4)]
    + [Reading(Scheme(31, list(range(8)), k), [[(turn, 3) for turn in range(3)] for _ in range(8)]) for k in (2, 6)]
)
NO_READINGS = (None, True, 3, "7 2 at 0 at 1", [], (), {}, Odd(), Reading, GREATER[0].scheme, [[(1, 1)]])
NO_SCORES = (*NO_INTEGERS, 0, -1, -GREAT)
