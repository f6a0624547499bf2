"""Rows of signs modulo p: coefficients, the constant one first, the last one not 0.

Nothing is checked here: p is a prime, and rows are lists or tuples of signs.
"""


def row_from(p, numbers):
    """The row of these integers modulo p, without the zeros at its end."""
    signs = [number % p for number in numbers]
    size = len(signs)
    while size > 0 and signs[size - 1] == 0:
        size = size - 1
    return tuple(signs[:size])


def inverse_of(p, sign):
    """The inverse of a sign that is not 0."""
    # Euclid's steps: at each one `small` is `now` times the sign, modulo p.
    big, small, before, now = p, sign, 0, 1
    while small > 1:
        times = big // small
        big, small = small, big - times * small
        before, now = now, before - times * now
    return now % p


def value_at(p, row, x):
    """The value at any integer."""
    value = 0
    for sign in row[::-1]:
        value = (value * x + sign) % p
    return value


def sum_of(p, one, other):
    """The row of the sum."""
    short, long = (one, other) if len(one) < len(other) else (other, one)
    both = [a + b for a, b in zip(short, long)]
    return row_from(p, [*both, *long[len(short):]])


def scaled(p, row, factor):
    """The row times any integer."""
    return row_from(p, [sign * factor for sign in row])


def difference_of(p, one, other):
    """The row of one less other."""
    return sum_of(p, one, scaled(p, other, -1))


def lessened(p, row, factor, other):
    """The row less any integer times the other one."""
    return sum_of(p, row, scaled(p, other, -factor)) if other else row


def packed(row, width):
    """One integer with the signs as its digits, each one written with so many hexadecimal ones."""
    return int("".join([f"{sign:x}".zfill(width) for sign in row[::-1]]), 16)


def unpacked(number, width):
    """The integers of this width that make up the number, the last digits first."""
    text = f"{number:x}"
    return [int(text[max(0, end - width):end], 16) for end in range(len(text), 0, -width)]


def product_of(p, one, other):
    """The row of the product."""
    if not one or not other:
        return ()
    # Great integers are multiplied much faster than row by row; no sum is too wide for its digits.
    width = len(f"{p * p * len(one):x}")
    return row_from(p, unpacked(packed(one, width) * packed(other, width), width))


def power_of(p, row, power):
    """The row to a power from 0 on."""
    if power == 0:
        return (1,)
    half = power_of(p, row, power // 2)
    square = product_of(p, half, half)
    return product_of(p, square, row) if power % 2 == 1 else square


def composed(p, row, other):
    """The row with the other one put for x."""
    if len(row) < 2:
        return row_from(p, row)
    half = len(row) // 2
    high = product_of(p, composed(p, row[half:], other), power_of(p, other, half))
    return sum_of(p, composed(p, row[:half], other), high)


def quotient_and_rest(p, one, other):
    """The rows of quotient and rest of one by other, which is not zero."""
    size = len(other)
    turn = inverse_of(p, other[-1])
    steps = max(0, len(one) - size + 1)
    quotient = [0] * steps
    rest = list(one)
    for at in reversed(range(steps)):
        times = rest[at + size - 1] * turn % p
        quotient[at] = times
        for place, sign in enumerate(other):
            rest[at + place] = (rest[at + place] - times * sign) % p
    return row_from(p, quotient), row_from(p, rest)


def shifted(p, row, shift):
    """The row with x + shift put for x."""
    out = []
    for sign in row[::-1]:
        # What is there is taken times x + shift, then the next sign comes in.
        out = [a + shift * b for a, b in zip([sign, *out], [*out, 0])]
        out = [one % p for one in out]
    return row_from(p, out)


def begun_shifted(p, row, shift, many):
    """The first so many coefficients of the row with x + shift put for x, zeros behind its end."""
    out = []
    left = row
    for _ in range(many):
        # Divided by x - shift the row leaves its next coefficient around the shift.
        rests = [0]
        for sign in left[::-1]:
            rests.append((rests[-1] * shift + sign) % p)
        out.append(rests[-1])
        left = rests[-2:0:-1]
    return out
