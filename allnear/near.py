"""Near words: all words of a great enough score, and the curve that shows that there are no others."""

from allnear.errors import Beyond
from allnear.least import least_curve
from allnear.papers import Denial, Paper, fixed
from allnear.pieces import pieces
from allnear.polys import Poly
from allnear.reaches import enough, reach


class All(Paper):
    """All words near for a score, and a curve and an m that show it."""

    def __init__(self, words, curve, m):
        self.word = "all"
        self.parts = fixed((words, curve, m))
        self.words, self.curve, self.m = self.parts


class Nearest(Paper):
    """All words of the greatest score, this score, and a curve and an m that show it."""

    def __init__(self, words, score, curve, m):
        self.word = "nearest"
        self.parts = fixed((words, score, curve, m))
        self.words, self.score, self.curve, self.m = self.parts


class Far(Denial):
    """No word has the score of the reach, and a curve and an m show it."""

    def __init__(self, curve, m):
        self.word = "far"
        self.parts = fixed((curve, m))
        self.curve, self.m = self.parts


def all_near(reading, t):
    """The All of the words that score t or more."""
    m = enough(reading, t)
    if m is None:
        raise Beyond(reach(reading)[0])
    curve = least_curve(reading, m)
    return All([word for word, _ in scored(reading, curve, t)], curve, m)


def nearest(reading):
    """The Nearest of the words of the greatest score, or the Far if none has that of the reach."""
    t, m = reach(reading)
    curve = least_curve(reading, m)
    found = scored(reading, curve, t)
    if not found:
        return Far(curve, m)
    return Nearest(best_of(found), best_score(found), curve, m)


def scored(reading, curve, t):
    """The pieces of the curve that score t or more, ascending, each with its score."""
    scheme = reading.scheme
    both = [(word, reading.score(Poly(scheme.p, word))) for word in pieces(curve, scheme.k).words]
    return [(word, score) for word, score in both if score >= t]


def best_score(found):
    """The greatest score of words that are told with their scores."""
    return max([score for _, score in found])


def best_of(found):
    """The words that have the greatest score."""
    most = best_score(found)
    return tuple([word for word, score in found if score == most])
