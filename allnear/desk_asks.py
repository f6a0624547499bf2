"""The ask lines of a desk: each is answered from the reading that is kept, which stays as it is."""

from allnear.desk_lines import ASKS, read_fitting
from allnear.judge import alone
from allnear.looks import best_look, values_at, word_at
from allnear.near import all_near, nearest
from allnear.reaches import reach


def answer(reading, line):
    """The answer to an ask line."""
    word, *parts = read_fitting(ASKS, reading, line)
    asked = ANSWERED[word]
    # Where there is nothing at all a sign stands for it.
    return asked(reading, *parts) or "-"


def numbers_text(numbers):
    """Numbers with single blanks between."""
    return " ".join([str(number) for number in numbers])


def reading_answer(reading):
    """Its text."""
    return str(reading)


def reach_answer(reading):
    """The least score that is enough, and its m."""
    return numbers_text(reach(reading))


def near_answer(reading, t):
    """The words that score t or more."""
    return " / ".join([numbers_text(word) for word in all_near(reading, t).words])


def nearest_answer(reading):
    """The greatest score and the words that have it, if they are told."""
    paper = nearest(reading)
    if not paper:
        return "far"
    return " / ".join([str(paper.score), *[numbers_text(word) for word in paper.words]])


def score_answer(reading, word):
    """The score of the word."""
    return str(reading.score(word))


def at_answer(reading, t, sign):
    """The values at a sign of the words near for t."""
    return numbers_text(values_at(reading, t, sign))


def judge_answer(reading, t, sign, value):
    """Whether a value must, can or cannot stand at a sign."""
    return word_at(reading, t, sign, value)


def look_answer(reading, t):
    """Where to look, and how many words are left at most."""
    return numbers_text(best_look(reading, t))


def alone_answer(reading, t):
    """Whether words stand alone at t on the scheme."""
    return alone(reading.scheme, t).word


ANSWERED = {"reading": reading_answer, "reach": reach_answer, "near": near_answer, "nearest": nearest_answer,
            "score": score_answer, "at": at_answer, "judge": judge_answer, "look": look_answer, "alone": alone_answer}
