"""The whole program: what its parts promise together."""

import unittest

from allnear.bases import Base
from allnear.check_near import shows_all, shows_nearest
from allnear.check_numbers import shows_numbers
from allnear.check_pieces import shows_pieces
from allnear.curves import Curve
from allnear.desk import Desk
from allnear.desk_asks import answer
from allnear.desk_deeds import done
from allnear.errors import NearError
from allnear.judge import Alone, alone
from allnear.least import least_curve
from allnear.looks import best_look, values_at
from allnear.near import all_near, nearest
from allnear.numbers import all_numbers, enough_for, least_worth
from allnear.pieces import pieces
from allnear.polys import Poly, through
from allnear.reaches import enough, reach
from allnear.readings import Reading
from allnear.rests import Rests
from allnear.roots import whole_roots
from allnear.rows import reduced
from allnear.schemes import Scheme
from allnear.stories import play, told
from allnear.words import coefficients_of, row_of, word_of, words
from tests.helper import Case, Numbers, kinds
from tests.second import scores, value
from tests.some_readings import SMALL, some_reading, two_words
from tests.some_rests import PRIMES, glued_numbers, spoilt_number, worth_of

ASKED = ("reading", "reach", "near {t}", "near {more}", "nearest", "at {t} 0", "at {more} 1", "judge {t} 1 1",
         "look {t}", "alone 2", "score {word}")


def asks_of(reading):
    """Lines to ask of a reading."""
    t, _ = reach(reading)
    word = " ".join(["1"] * reading.scheme.k)
    return [line.format(t=t, more=t + 1, word=word) for line in ASKED]


def outcome(call, *parts):
    """What a call returns, or the error that it raises, to be compared."""
    try:
        return call(*parts)
    except NearError as error:
        return type(error), list(vars(error).values())


class OfferByOffer(Case):
    """A reading told offer by offer, in any order, is the same one, and is answered alike."""

    def offers_of(self, reading):
        return [(at, value, weight) for at, pairs in enumerate(reading.offers) for value, weight in pairs]

    def test_any_order(self):
        for seed, reading in enumerate(SMALL[1::2]):
            offers = self.offers_of(reading)
            for order in (offers, offers[::-1], Numbers(seed).pick(offers, len(offers))):
                grown = Reading(reading.scheme, [[]] * len(reading.scheme))
                base = Base(reading.scheme.p, reading.scheme.k, 12)
                for at, sign, weight in order:
                    grown = grown.with_offer(at, sign, weight)
                    base = base.passing(reading.scheme.places[at], sign, weight)
                self.assertTrue(grown == reading)
                self.same((str(grown), grown.points), (str(reading), reading.points))
                for line in asks_of(reading):
                    self.same(outcome(answer, grown, line), outcome(answer, reading, line))
                if least_curve(reading, 1).power <= 12:
                    self.assertTrue(base.least == least_curve(reading, 1))

    def test_by_lines(self):
        for seed, reading in enumerate(SMALL[::2]):
            offers = self.offers_of(reading)
            lines = [f"set {reading.scheme}"]
            lines += [f"offer {at} {sign} {weight}" for at, sign, weight in Numbers(seed).pick(offers, len(offers))]
            self.assertTrue(told(lines).reading == reading)
            expected = [str(len(reading.scheme))] + [str(many + 1) for many in range(len(offers))]
            self.same(list(play(lines)), expected)
            asked = [line for line in asks_of(reading) if isinstance(outcome(answer, reading, line), str)]
            self.same(list(play(lines + asked)), expected + [answer(reading, line) for line in asked])

    def test_struck_and_put_back(self):
        for reading in SMALL:
            for at, sign, weight in self.offers_of(reading):
                again = reading.without(at, sign).with_offer(at, sign, weight)
                self.assertTrue(again == reading)


class Near(Case):
    """All that is near, and words that were written."""

    def test_trial_of_all_words(self):
        for reading in SMALL[::3]:
            least, _ = reach(reading)
            all_scores = scores(reading)
            for t in range(1, least + 3):
                near = tuple(word for word, score in all_scores.items() if score >= t)
                if enough(reading, t) is not None:
                    paper = all_near(reading, t)
                    self.same(paper.words, near)
                    self.same(shows_all(reading, t, paper), True)
                    by_line = answer(reading, f"near {t}")
                    self.same(by_line, " / ".join(" ".join(map(str, word)) for word in near) or "-")
                    for sign in range(reading.scheme.p):
                        self.same(values_at(reading, t, sign),
                                  tuple(sorted({value(reading.scheme.p, word, sign) for word in near})))

    def test_spoilt_as_often_as_may_be(self):
        """A word is written and spoilt at as many places as its reach leaves: it is found again."""
        numbers = Numbers(140)
        most = {}
        for p, n, k in ((97, 16, 2), (97, 16, 3), (97, 16, 4), (97, 16, 5), (97, 16, 6), (13, 13, 2), (11, 10, 3),
                        (7, 7, 2), (5, 5, 2), (53, 12, 4)):
            scheme = Scheme(p, numbers.pick(range(p), n), k)
            for _ in range(2):
                word = Poly(p, numbers.some(k, p))
                row, order = list(row_of(scheme, word)), numbers.pick(range(n), n)
                for wrong in range(n):
                    reading = Reading.plain(scheme, row)
                    least, _ = reach(reading)
                    if n - wrong < least:
                        break
                    most[p, n, k] = max(most.get((p, n, k), 0), wrong)
                    self.assertIn(coefficients_of(scheme, word), all_near(reading, least).words)
                    best = nearest(reading)
                    self.assertGreaterEqual(best.score, n - wrong)
                    self.same(shows_nearest(reading, best), True)
                    if alone(scheme, n - wrong):
                        self.same((best.words, best.score), ((coefficients_of(scheme, word),), n - wrong))
                    at = order[wrong]
                    row[at] = (row[at] + 1 + numbers.below(p - 1)) % p
        # More wrong places than half of what k leaves over: none of these stands alone any more.
        self.assertGreater(most[97, 16, 2], 7)
        self.assertGreater(most[97, 16, 3], 6)

    def test_words_glued(self):
        """A reading that has the values of several words by turns: all of them are told."""
        numbers = Numbers(141)
        found = {}
        for p, n, k, many in ((97, 16, 2, 2), (53, 12, 2, 2), (97, 14, 3, 2), (97, 8, 2, 2), (97, 8, 2, 3),
                              (97, 7, 2, 3), (31, 6, 2, 4), (97, 8, 3, 3)):
            scheme = Scheme(p, numbers.pick(range(p), n), k)
            chosen = [Poly(p, numbers.some(k, p)) for _ in range(many)]
            for way in ("turns", "all"):
                # By turns one value at each place; or at each place those of all words are offered.
                rows = [row_of(scheme, word) for word in chosen]
                offers = [sorted({row[at] for row in (rows if way == "all" else [rows[at % many]])}) for at in range(n)]
                if sum(map(len, offers)) > 24:
                    continue
                reading = Reading(scheme, [[(sign, 1) for sign in signs] for signs in offers])
                least, _ = reach(reading)
                near = all_near(reading, least).words
                for word in chosen:
                    self.same(coefficients_of(scheme, word) in near, reading.score(word) >= least)
                    found[way] = found.get(way, 0) + (reading.score(word) >= least)
        self.assertGreater(min(found.values()), 5)

    def test_looks_find_the_word(self):
        """Looks, one behind another, leave one word."""
        reading = two_words(7, 7, 2, 1)
        t, _ = reach(reading)
        near = all_near(reading, t).words
        self.same(len(near), 3)
        sign, many = best_look(reading, t)
        for word in near:
            left = [one for one in near if value(7, one, sign) == value(7, word, sign)]
            self.assertLessEqual(len(left), many)

    def test_alone_holds(self):
        for p, n, k in ((5, 5, 2), (3, 3, 2), (5, 4, 3)):
            scheme = Scheme(p, list(range(n)), k)
            rows = [row_of(scheme, word) for word in words(scheme)]
            for t in range(1, n + 1):
                shared = max(sum(map(lambda a, b: a == b, one,
                                     other)) for one in rows for other in rows if one != other)
                self.same(type(alone(scheme, t)) is Alone, shared < 2 * t - n)


class WholeNumbers(Case):
    """Numbers that were told by their rests."""

    def test_spoilt(self):
        found = 0
        for most in (9, 99, 10 ** 4, 10 ** 6, 10 ** 8):
            for wrong in range(6):
                for seed in range(4):
                    rests, number = spoilt_number(Numbers(seed).pick(PRIMES[10:], 8), wrong, most, seed)
                    least = least_worth(rests)
                    paper = all_numbers(rests, least)
                    self.same(number in paper.numbers, worth_of(rests, number) >= least)
                    self.same(shows_numbers(rests, least, paper), True)
                    found += number in paper.numbers and wrong > 0
        self.assertGreater(found, 30)

    def test_glued(self):
        several = 0
        for seed in range(30):
            rests, chosen = glued_numbers(PRIMES[-8:], 60, 2 + seed % 2, seed)
            least = least_worth(rests)
            numbers = all_numbers(rests, least).numbers
            for number in chosen:
                self.same(number in numbers, worth_of(rests, number) >= least)
            several += len(numbers) > 1
        self.assertGreater(several, 2)


def calls():
    """Calls of all parts of the program, each with lists that it may not change."""
    scheme = Scheme(7, [0, 1, 2, 3, 4, 5, 6], 2)
    reading, curve = two_words(7, 7, 2, 1), Curve(7, [[0, 1], [1, 2, 3], [1]])
    rests = Rests([97, 89, 83, 79, 73], [5, 5, 5, 5, 6], 40)
    near, best, split = all_near(reading, 6), nearest(reading), pieces(curve, 2)
    numbers = all_numbers(rests, least_worth(rests))
    return [
        (Poly, 7, [1, 2, 3]), (through, 7, [[0, 3], [2, 0], (1, 4)]), (Scheme, 7, [3, 1, 2], 2),
        (row_of, scheme, Poly(7, [1, 2])), (word_of, scheme, [0, 1, 2, 3, 4, 5, 6]), (words, scheme),
        (Reading, scheme, [[[3, 1], (2, 2)]] + [[]] * 6), (Reading.plain, scheme, [1, None, 2, 3, 4, 5, 6]),
        (reading.score, Poly(7, [1, 2])), (reading.moved, Poly(7, [1, 2])), (Curve, 7, [[1, 2], [], [3, 0]]),
        (curve.around, 3, 4), (curve.along, Poly(7, [1, 2])), (curve.led, 2), (Base(7, 2, 3).passing, 1, 2, 3),
        (least_curve, reading, 2), (pieces, curve, 2), (shows_pieces, curve, 2, split), (reach, reading),
        (enough, reading, 3), (all_near, reading, 6), (nearest, reading), (shows_all, reading, 6, near),
        (shows_nearest, reading, best), (values_at, reading, 6, 3), (best_look, reading, 5), (alone, scheme, 3),
        (reduced, [[5, 0], [2, 1]]), (whole_roots, [6, -5, 1], 0, 9), (Rests, [5, 7], [3, None], 4),
        (enough_for, rests, 10 ** 8), (least_worth, rests), (all_numbers, rests, rests.product),
        (shows_numbers, rests, least_worth(rests), numbers), (done, reading, "move 1 2"),
        (done, None, "set 5 2 at 0 at 1"), (answer, reading, "near 6"), (play, ["set 5 2 at 0 at 1", "reach"]),
        (Desk(reading).tell, "nearest"),
    ]


class Calls(Case):
    """Equal calls give equal answers, and nothing that was passed is changed."""

    def state(self, part):
        """A part of a call, to be compared later: lists are copied, values are told by their attributes."""
        if isinstance(part, (list, tuple)):
            return (type(part), [self.state(one) for one in part])
        if hasattr(part, "__dict__") and not callable(part):
            return {name: self.state(one) for name, one in vars(part).items()}
        return part

    def test_equal_calls(self):
        for (call, *parts), (other_call, *others) in zip(calls(), calls()):
            ahead = [self.state(part) for part in parts]
            first, again, other = call(*parts), call(*parts), other_call(*others)
            self.same([self.state(part) for part in parts], ahead)
            self.same(again, first)
            self.same(other, first)
            self.assertFalse(first != again)

    def test_lists_and_tuples(self):
        """Lists and tuples may be passed for one another."""
        def turned(part):
            if isinstance(part, (list, tuple)):
                made = tuple if isinstance(part, list) else list
                return made([turned(one) for one in part])
            return part

        for call, *parts in calls():
            self.same(call(*[turned(part) for part in parts]), call(*parts))

    def test_tuples_are_returned(self):
        for call, *parts in calls():
            self.assertNotIn(list, flat(kinds(call(*parts))))

    def test_attributes_are_tuples(self):
        for made in (Poly(7, [1]), Scheme(7, [1, 2], 2), Reading(Scheme(7, [1, 2], 2), [[[1, 2]], []]),
                     Curve(7, [[1], [2]]), Base(7, 2, 2).passing(1, 1, 1), Rests([5, 7], [1, 2], 3),
                     some_reading(7, 5, 2, 9, 1)):
            for name, one in vars(made).items():
                if not name.startswith("_"):
                    self.assertNotIn(list, flat(kinds(one)), (made, name))


class Classes(Case):
    """A value and one of another class are unlike, also where all attributes are the same."""

    def test_below(self):
        for make, parts in ((Poly, (7, [1])), (Scheme, (7, [1, 2], 2)), (Reading, (Scheme(7, [1, 2], 2), [[], []])),
                            (Curve, (7, [[1]])), (Base, (7, 2, 2)), (Rests, ([5, 7], [1, 2], 3))):
            below = type("Below", (make,), {})
            one, other = make(*parts), below(*parts)
            self.same([one == other, other == one, one != other, one == make(*parts)], [False, False, True, True])


def flat(told):
    """All classes in what kinds tells."""
    if isinstance(told, tuple):
        return [told[0]] + [one for part in told[1] for one in flat(part)]
    return [told]


if __name__ == "__main__":
    unittest.main()
