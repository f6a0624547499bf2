"""Point 11 and the interface, allnear/looks.py."""

import unittest

from allnear.errors import BadNumber, BadReading, Beyond, Impossible
from allnear.looks import best_look, values_at, word_at
from allnear.near import all_near
from allnear.reaches import reach
from allnear.readings import Reading
from allnear.schemes import Scheme
from tests.helper import GREAT, NO_INTEGERS, Case
from tests.second import scores, value
from tests.some_readings import GREATER, NO_READINGS, NO_SCORES, SMALL, two_words

FIVE = Scheme(5, [0, 1, 2, 3, 4], 2)
SPOILT = Reading.plain(FIVE, [0, 1, 2, 0, 0])
# A scheme of two places only, so that most signs are no place of it.
FEW = Reading(Scheme(7, [2, 5], 2), [[(1, 3), (2, 3), (3, 1)], [(0, 3), (6, 3)]])


def asked(readings):
    """Readings with some scores from their reach on, and the words that score as much, by trial of all words."""
    for reading in readings:
        told = scores(reading)
        least, _ = reach(reading)
        for t in sorted({least, least + 1, max(least, *told.values()), max(least, *told.values()) + 1}):
            yield reading, t, [word for word, score in told.items() if score >= t]


def no_signs(reading):
    """What is no sign of the scheme of a reading."""
    return (*NO_INTEGERS, -1, reading.scheme.p, GREAT)


class Values(Case):
    """values_at."""

    def test_trial_of_all_words(self):
        for reading, t, words in asked(SMALL + [FEW]):
            p, text = reading.scheme.p, str(reading)
            for sign in range(p):
                told = {value(p, word, sign) for word in words}
                self.gives(values_at, tuple(sorted(told)), reading, t, sign)
            self.same(str(reading), text)

    def test_no_word(self):
        for reading in SMALL + GREATER:
            self.gives(values_at, (), reading, 100, 0)
            self.same(values_at(sign=reading.scheme.p - 1, t=GREAT, reading=reading), ())

    def test_greater(self):
        reading = two_words(97, 16, 3, 3)
        t = reach(reading)[0]
        words = all_near(reading, t).words
        self.assertEqual(len(words), 2)
        for sign in range(97):
            self.gives(values_at, tuple(sorted({value(97, word, sign) for word in words})), reading, t, sign)

    def test_raises(self):
        for odd in NO_READINGS:
            self.fails(BadReading("reading"), values_at, odd, 3, 0)
            self.fails(BadReading("reading"), values_at, odd, 0, -1)
        for odd in NO_SCORES:
            self.fails(BadNumber("t"), values_at, SPOILT, odd, 0)
            self.fails(BadNumber("t"), values_at, SPOILT, odd, 5)
        for odd in no_signs(SPOILT):
            self.fails(BadNumber("sign"), values_at, SPOILT, 3, odd)
            self.fails(BadNumber("sign"), values_at, SPOILT, 2, odd)
        for t in (1, 2):
            self.fails(Beyond(3), values_at, SPOILT, t, 4)


class Words(Case):
    """word_at."""

    def test_trial_of_all_words(self):
        answers = set()
        for reading, t, words in asked([reading for reading in SMALL if reading.scheme.p < 6] + [FEW]):
            p = reading.scheme.p
            for sign in range(p):
                told = [value(p, word, sign) for word in words]
                for one in range(p):
                    if not words:
                        self.fails(Impossible(all_near(reading, t)), word_at, reading, t, sign, one)
                        continue
                    answer = "cannot" if one not in told else "must" if told == [one] * len(told) else "can"
                    self.gives(word_at, answer, reading, t, sign, one)
                    answers.add((answer, sign in reading.scheme.places))
        self.same(len(answers), 6)

    def test_by_name(self):
        self.same(word_at(value=0, sign=0, t=3, reading=SPOILT), "must")

    def test_raises(self):
        for odd in NO_READINGS:
            self.fails(BadReading("reading"), word_at, odd, 3, 0, 0)
            self.fails(BadReading("reading"), word_at, odd, 0, 9, 9)
        for odd in NO_SCORES:
            self.fails(BadNumber("t"), word_at, SPOILT, odd, 0, 0)
            self.fails(BadNumber("t"), word_at, SPOILT, odd, 5, 5)
        for odd in no_signs(SPOILT):
            for t in (1, 3, 100):
                self.fails(BadNumber("sign"), word_at, SPOILT, t, odd, 0)
                self.fails(BadNumber("sign"), word_at, SPOILT, t, odd, odd)
                self.fails(BadNumber("value"), word_at, SPOILT, t, 0, odd)
        for t in (1, 2):
            self.fails(Beyond(3), word_at, SPOILT, t, 4, 4)
        for t in (4, 100, GREAT):
            self.fails(Impossible(all_near(SPOILT, t)), word_at, SPOILT, t, 4, 4)


class Looks(Case):
    """best_look."""

    def test_own_counting(self):
        later = 0
        for reading, t, words in asked(SMALL + [FEW]):
            p = reading.scheme.p
            if not words:
                self.fails(Impossible(all_near(reading, t)), best_look, reading, t)
                continue
            left = []
            for sign in range(p):
                told = [value(p, word, sign) for word in words]
                left.append(max(told.count(one) for one in range(p)))
            self.gives(best_look, (left.index(min(left)), min(left)), reading, t)
            later += left.index(min(left)) > 0
        self.assertGreater(later, 0)

    def test_one_word(self):
        for reading in (Reading.plain(FIVE, [0, 1, 2, 3, 4]), Reading.plain(FIVE, [3, 3, 3, 3, 1])):
            self.gives(best_look, (0, 1), reading, 4)

    def test_greater(self):
        for reading in (two_words(97, 16, 3, 3), two_words(53, 16, 2, 2)):
            sign, many = best_look(reading, reach(reading)[0])
            self.same(many, 1)
            for one in range(sign):
                self.same(len(values_at(reading, reach(reading)[0], one)), 1)

    def test_raises(self):
        for odd in NO_READINGS:
            self.fails(BadReading("reading"), best_look, odd, 3)
            self.fails(BadReading("reading"), best_look, odd, 0)
        for odd in NO_SCORES:
            self.fails(BadNumber("t"), best_look, SPOILT, odd)
        for t in (1, 2):
            self.fails(Beyond(3), best_look, t=t, reading=SPOILT)
        for t in (4, GREAT):
            self.fails(Impossible(all_near(SPOILT, t)), best_look, SPOILT, t)


if __name__ == "__main__":
    unittest.main()
