"""Papers: what tells an answer, and shows it."""


def fixed(value):
    """The value with each list in it as a tuple, all the way in."""
    if isinstance(value, (list, tuple)):
        return tuple([fixed(part) for part in value])
    return value


def is_same(one, other):
    """Whether both are papers of one class with equal words and parts."""
    return type(one) is type(other) and one.word == other.word and one.parts == other.parts


class Paper:
    """A paper with this word and these parts; it is true."""

    def __init__(self, word, *parts):
        self.word = word
        self.parts = fixed(parts)

    def __eq__(self, other):
        return is_same(self, other)


class Denial(Paper):
    """A paper that says no; it is false."""

    def __eq__(self, other):
        return is_same(self, other)

    def __bool__(self):
        return False
