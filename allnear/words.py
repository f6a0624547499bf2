"""Words of a scheme: polynomials of degree below k, told by k coefficients or by their rows."""

from allnear.checks import is_signs
from allnear.errors import BadPoly, BadReading, BadScheme, TooMany
from allnear.polys import Poly, through
from allnear.schemes import Scheme

MOST_WORDS = 3000


def need_scheme(scheme):
    """Nothing, but it must be a scheme."""
    if not isinstance(scheme, Scheme):
        raise BadScheme("scheme")


def need_word(scheme, word):
    """Nothing, but these must be a scheme and a word of it."""
    if not is_word(scheme, word):
        raise BadPoly("word")


def is_word(scheme, value):
    """Whether any value is a word of this scheme."""
    need_scheme(scheme)
    return isinstance(value, Poly) and value.p == scheme.p and value.degree < scheme.k


def row_of(scheme, word):
    """The values of the word at the places, in their order."""
    need_word(scheme, word)
    return tuple([word(place) for place in scheme.places])


def coefficients_of(scheme, word):
    """The k coefficients of the word."""
    need_word(scheme, word)
    return word.coefficients + (0,) * (scheme.k - len(word.coefficients))


def word_of(scheme, row):
    """The word with this row, None without one."""
    need_scheme(scheme)
    if not is_signs(scheme.p, row) or len(row) != len(scheme):
        raise BadReading("row")
    poly = through(scheme.p, list(zip(scheme.places, row)))
    return poly if poly.degree < scheme.k else None


def words(scheme):
    """All words, ascending."""
    need_scheme(scheme)
    rows = [()]
    for _ in range(scheme.k):
        if len(rows) * scheme.p > MOST_WORDS:
            raise TooMany("words", MOST_WORDS)
        rows = [(*row, sign) for row in rows for sign in range(scheme.p)]
    return tuple([Poly(scheme.p, row) for row in rows])
