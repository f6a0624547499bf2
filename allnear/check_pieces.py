"""The check of pieces: multiplied out they are the curve, and the rest has no piece."""

from allnear.checks import is_list, is_numbers, is_signs, is_within
from allnear.curves import Curve, need_curve, rows_from
from allnear.pieces import Pieces, piece_words
from allnear.signs import scaled
from allnear.terms import need_k


def shows_pieces(curve, k, value):
    """Whether it is the Pieces of the curve."""
    need_curve(curve)
    need_k(k)
    if type(value) is not Pieces or not are_words(curve.p, k, value.words) or not are_rows(curve.p, value.rest):
        return False
    if not are_times(value.times) or len(value.times) != len(value.words):
        return False
    # Powers add up: this keeps what is multiplied out small.
    if sum(value.times) + len(value.rest) - 1 != curve.power:
        return False
    return multiplied(curve.p, value) == curve and not piece_words(curve.p, value.rest, k)


def are_words(p, k, value):
    """Whether it is a list of unlike words of k coefficients, ascending."""
    if not is_list(value) or not all([is_signs(p, word) and len(word) == k for word in value]):
        return False
    return all([one < other for one, other in zip(value, value[1:])])


def are_rows(p, value):
    """Whether these are the rows of a curve as it has them."""
    if not is_list(value) or not all([is_numbers(row) for row in value]):
        return False
    return len(value) > 0 and rows_from(p, value) == value


def are_times(value):
    """Whether it is a list of integers from 1 on."""
    return is_list(value) and all([is_within(one, 1, None) for one in value])


def multiplied(p, value):
    """The curve that the rest and the divisors of the pieces make."""
    curve = Curve(p, value.rest)
    for word, many in zip(value.words, value.times):
        divisor = Curve(p, [scaled(p, word, -1), [1]])
        for _ in range(many):
            curve = curve * divisor
    return curve
