"""The errors of the package: each keeps its fields in attributes of their names."""


class NearError(ValueError):
    """The base of all errors of the package."""


class BadPoly(NearError):
    """No polynomial, or a part that makes none."""

    def __init__(self, part):
        self.part = part


class BadScheme(NearError):
    """No scheme, or a part that makes none."""

    def __init__(self, part):
        self.part = part


class BadReading(NearError):
    """No reading, or a part that makes none."""

    def __init__(self, part):
        self.part = part


class BadCurve(NearError):
    """No curve, or a part that makes none."""

    def __init__(self, part):
        self.part = part


class BadBase(NearError):
    """No base, or a part that makes none."""

    def __init__(self, part):
        self.part = part


class BadRows(NearError):
    """No rows of integers, or rows that cannot serve."""

    def __init__(self, part):
        self.part = part


class BadRests(NearError):
    """No rests, or a part that makes none."""

    def __init__(self, part):
        self.part = part


class BadNumber(NearError):
    """No integer, or one out of its bounds."""

    def __init__(self, part):
        self.part = part


class BadDesk(NearError):
    """No desk, or a part that makes none."""

    def __init__(self, part):
        self.part = part


class Misfit(NearError):
    """Values that do not fit together."""

    def __init__(self, part):
        self.part = part


class Missing(NearError):
    """A value that is none here; only the errors below it are raised."""

    def __init__(self, value):
        self.value = value


class NoPlace(Missing):
    """A value that is no index of a place."""


class NoOffer(Missing):
    """A value that is not offered there."""


class NoPrime(Missing):
    """A value that is none of the primes."""


class Twice(NearError):
    """A value that stands there already."""

    def __init__(self, value):
        self.value = value


class ByZero(NearError):
    """A division by zero."""


class Beyond(NearError):
    """What is asked is not enough, but from this least one on; None if nothing is."""

    def __init__(self, least):
        self.least = least


class Impossible(NearError):
    """What is asked cannot be; the paper shows it."""

    def __init__(self, paper):
        self.paper = paper


class TooMany(NearError):
    """More of something than there may be."""

    def __init__(self, what, most):
        self.what = what
        self.most = most


class Nothing(NearError):
    """Nothing is there to work on."""


class BadText(NearError):
    """A text in which this item cannot stand, or is missing."""

    def __init__(self, line, item):
        self.line = line
        self.item = item


class BadLine(NearError):
    """A line of a desk, and the error that was raised there."""

    def __init__(self, line, error):
        self.line = line
        self.error = error
