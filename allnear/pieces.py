"""Pieces: the words f for which y - f(x) divides a curve."""

from allnear.curves import need_curve
from allnear.papers import Paper, fixed
from allnear.polys import Poly
from allnear.signs import scaled, sum_of, value_at
from allnear.terms import need_k


class Pieces(Paper):
    """The pieces of a curve, ascending, how many times each is one, and the rows of the rest."""

    def __init__(self, words, times, rest):
        self.word = "pieces"
        self.parts = fixed((words, times, rest))
        self.words, self.times, self.rest = self.parts


def pieces(curve, k):
    """The pieces of the curve, as words of k coefficients."""
    need_curve(curve)
    need_k(k)
    found = piece_words(curve.p, curve.rows, k)
    times = []
    left = curve
    for word in found:
        many, left = taken(left, Poly(curve.p, word))
        times.append(many)
    return Pieces(found, times, left.rows)


def is_piece(curve, poly):
    """Whether y - poly(x) divides the curve."""
    need_curve(curve)
    return curve.along(poly).degree < 0


def taken(curve, poly):
    """How many times y - poly(x) divides the curve, and what is left of it."""
    many = 0
    left = curve
    less = left.divided(poly)
    while less is not None:
        many, left = many + 1, less
        less = left.divided(poly)
    return many, left


def piece_words(p, rows, many):
    """The tuples of so many coefficients of all pieces of the curve with these rows, ascending."""
    if many == 0:
        # Only the zero polynomial can be meant here: it is a piece exactly if y divides the curve.
        return [] if rows[0] else [()]
    bare = without_x(rows)
    ends = [row[0] if row else 0 for row in bare]
    return [(sign, *word) for sign in range(p) if value_at(p, ends, sign) == 0
            for word in piece_words(p, stepped(p, bare, sign), many - 1)]


def without_x(rows):
    """The rows of a curve, divided by x as often as x divides it."""
    many = min([leading_zeros(row) for row in rows if row])
    return [row[many:] for row in rows]


def leading_zeros(row):
    """How many zeros a row that is not zero begins with."""
    many = 0
    while row[many] == 0:
        many = many + 1
    return many


def stepped(p, rows, sign):
    """The rows of a curve with x y + sign put for y."""
    return [(0,) * j + row if row else row for j, row in enumerate(raised(p, rows, sign))]


def raised(p, rows, sign):
    """The rows of a curve with y + sign put for y."""
    if sign == 0:
        return list(rows)
    out = []
    for row in rows[::-1]:
        # What is there is taken times y + sign, then the next row comes in.
        out = [sum_of(p, low, scaled(p, high, sign)) for low, high in zip([row, *out], [*out, ()])]
    return out
