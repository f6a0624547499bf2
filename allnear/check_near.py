"""The check of what is near: the curve passes often enough, and its pieces tell the words."""

from allnear.checks import is_integer, is_list, is_numbers, is_within
from allnear.curves import Curve
from allnear.near import All, Far, Nearest, best_of, best_score, scored
from allnear.reaches import need_score, reach
from allnear.readings import need_reading

MOST_POWER = 20
MOST_ROW = 60


def shows_all(reading, t, value):
    """Whether it is an All of the words that score t or more."""
    need_reading(reading)
    need_score(t)
    if type(value) is not All or not is_shown(reading, t, value.curve, value.m):
        return False
    return are_just(value.words, tuple([word for word, _ in scored(reading, value.curve, t)]))


def shows_nearest(reading, value):
    """Whether it is a Nearest of the reading, or the Far if no word has the score of its reach."""
    t, _ = reach(reading)
    if type(value) is not Nearest and type(value) is not Far:
        return False
    if not is_shown(reading, t, value.curve, value.m):
        return False
    found = scored(reading, value.curve, t)
    if type(value) is Far:
        return not found
    if not found or not is_integer(value.score) or value.score != best_score(found):
        return False
    return are_just(value.words, best_of(found))


def is_shown(reading, t, curve, m):
    """Whether each word that scores t or more must be a piece of the curve, by this m."""
    if not is_within(m, 1, None) or not isinstance(curve, Curve) or curve.p != reading.scheme.p:
        return False
    if curve.power > MOST_POWER or max([len(row) for row in curve.rows]) > MOST_ROW:
        return False
    if curve.span(reading.scheme.k) >= m * t:
        return False
    return all([curve.passes(place, value) >= m * weight for place, value, weight in reading.points])


def are_just(value, words):
    """Whether it is a list of just these words, in their order."""
    return is_list(value) and all([is_numbers(word) for word in value]) and value == words
