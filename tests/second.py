"""Second ways: what the document tells, worked out by plain counting and trial, apart from the package's own code."""

from itertools import product
from math import comb


def signs_around(p, term, points):
    """The conditions of a term alone: its coefficients around each point, of i + j below its times."""
    i, j = term
    return [comb(i, x) * pow(a, i - x, p) * comb(j, y) * pow(b, j - y, p) % p if x <= i and y <= j else 0
            for a, b, times in points for y in range(times) for x in range(times - y)]


def ascending(k, power=None):
    """All terms, one behind another, without an end, of a power at most."""
    span = 0
    while True:
        for j in range(span // (k - 1) + 1):
            if power is None or j <= power:
                yield span - (k - 1) * j, j
        span += 1


def least_terms(p, k, points, power=None):
    """The terms of the least curve that passes the points: the first term that hangs on those ahead of it."""
    known = {}
    for term in ascending(k, power):
        row, made = signs_around(p, term, points), {term: 1}
        for at, (other, terms) in known.items():
            factor = row[at]
            if factor:
                row = [(one - factor * two) % p for one, two in zip(row, other)]
                for name, sign in terms.items():
                    made[name] = (made.get(name, 0) - factor * sign) % p
        if not any(row):
            return {name: sign for name, sign in made.items() if sign}
        at = next(index for index, sign in enumerate(row) if sign)
        turn = pow(row[at], -1, p)
        known[at] = ([sign * turn % p for sign in row], {name: sign * turn % p for name, sign in made.items()})


def terms_of(curve):
    """The terms of a curve with their coefficients."""
    return {(i, j): sign for j, row in enumerate(curve.rows) for i, sign in enumerate(row) if sign}


def rows_of(terms):
    """The rows of these terms, as a curve has them."""
    power = max(j for _, j in terms)
    ends = [max([i for i, other in terms if other == j], default=-1) for j in range(power + 1)]
    return tuple(tuple(terms.get((i, j), 0) for i in range(end + 1)) for j, end in enumerate(ends))


def product_terms(p, one, other):
    """The terms of a product."""
    out = {}
    for (i, j), a in one.items():
        for (x, y), b in other.items():
            out[i + x, j + y] = (out.get((i + x, j + y), 0) + a * b) % p
    return {term: sign for term, sign in out.items() if sign}


def divisor(p, word):
    """The terms of y less the word."""
    return {**{(i, 0): -sign % p for i, sign in enumerate(word) if sign % p}, (0, 1): 1}


def put(p, terms, x_terms, y_terms):
    """The terms with sums of terms put for x and for y."""
    out = {}
    powers = {}

    def power(name, told, many):
        if many == 0:
            return {(0, 0): 1}
        if (name, many) not in powers:
            powers[name, many] = product_terms(p, power(name, told, many - 1), told)
        return powers[name, many]

    for (i, j), sign in terms.items():
        for term, more in product_terms(p, power("x", x_terms, i), power("y", y_terms, j)).items():
            out[term] = (out.get(term, 0) + sign * more) % p
    return {term: sign for term, sign in out.items() if sign}


def along(p, terms, word):
    """The curve with the word put for y."""
    return put(p, terms, {(1, 0): 1}, {(i, 0): sign for i, sign in enumerate(word) if sign})


def quotient(p, terms, word):
    """The terms divided by y less the word, None if that leaves a rest."""
    left, out = dict(terms), {}
    while any(j for _, j in left):
        i, j = max(left, key=lambda term: (term[1], term[0]))
        sign = left.pop((i, j))
        out[i, j - 1] = sign
        for at, more in enumerate(word):
            lower = (i + at, j - 1)
            left[lower] = (left.get(lower, 0) + sign * more) % p
        left = {term: one for term, one in left.items() if one}
    return None if left else out


def times_of(p, terms, word):
    """How many times y less the word divides, and what is left."""
    many, less = 0, quotient(p, terms, word)
    while less is not None:
        many, terms, less = many + 1, less, quotient(p, less, word)
    return many, terms


def pieces_of(p, k, terms):
    """Words, times and rest, by trial of all words."""
    found = []
    for word in product(range(p), repeat=k):
        many, terms = times_of(p, terms, word)
        if many:
            found.append((word, many))
    return tuple(word for word, _ in found), tuple(many for _, many in found), rows_of(terms)


def value(p, word, x):
    """The value of a word."""
    return sum(sign * x ** power for power, sign in enumerate(word)) % p


def score(reading, word):
    """The weights of the right offers of a word."""
    return sum(weight for a, b, weight in reading.points if value(reading.scheme.p, word, a) == b)


def scores(reading):
    """All words, ascending, with their scores."""
    scheme = reading.scheme
    return {word: score(reading, word) for word in product(range(scheme.p), repeat=scheme.k)}


def many_below(k, span):
    """How many terms have a span below this one, by listing."""
    return len([1 for j in range(span) for i in range(span) if i + (k - 1) * j < span])


def conditions(reading, m):
    """How many conditions a reading has for m, counted one by one."""
    return len([1 for _, _, weight in reading.points for i in range(m * weight) for j in range(m * weight - i)])
