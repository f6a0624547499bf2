"""The judge: from how many right places on a word stands alone."""

from allnear.checks import is_within
from allnear.errors import BadNumber
from allnear.papers import Denial, Paper, fixed
from allnear.signs import product_of, value_at
from allnear.words import need_scheme


class Alone(Paper):
    """No row has two words that are right so often."""

    def __init__(self):
        self.word = "alone"
        self.parts = ()


class Twins(Denial):
    """Two words, and a row for which both are right so often."""

    def __init__(self, one, other, row):
        self.word = "twins"
        self.parts = fixed((one, other, row))
        self.one, self.other, self.row = self.parts


def alone(scheme, t):
    """The Alone, or Twins, for t right places on this scheme."""
    need_asked(scheme, t)
    return Alone() if is_alone(scheme, t) else twins_of(scheme)


def need_asked(scheme, t):
    """Nothing, but these must be a scheme and a number of its places."""
    need_scheme(scheme)
    if not is_within(t, 1, len(scheme)):
        raise BadNumber("t")


def is_alone(scheme, t):
    """Whether words that are right at t places agree at k of them at least, so are one."""
    return 2 * t > len(scheme) + scheme.k - 1


def twins_of(scheme):
    """The Twins of the zero word and one that is zero at k - 1 places."""
    shared = scheme.k - 1
    word = (1,)
    for place in scheme.places[:shared]:
        word = product_of(scheme.p, word, (-place % scheme.p, 1))
    # At the first places both are 0; from there on the row has the value of the one and the other by turns.
    row = [value_at(scheme.p, word, place) if index % 2 == 0 else 0 for index, place in enumerate(scheme.places)]
    return Twins((0,) * scheme.k, word, row)
