"""What the tests share: a case that looks at an error's fields, odd values, numbers that only look like chance."""

import unittest

from allnear.errors import BadText, NearError

FIELDS = ("part", "value", "least", "paper", "what", "most", "line", "item", "error")
GREAT = 10 ** 30
SOME_PRIMES = (2, 3, 5, 13, 97)


class Odd:
    """A value of no kind that the package knows."""


# What is no integer; True and False are none either.
NO_INTEGERS = (None, True, False, "1", "", b"1", 1.0, 2.5, [], [1], (1,), {}, {1: 1}, Odd(), int, len)
# What is no list and no tuple.
NO_LISTS = (None, True, 3, "ab", "", b"ab", {}, {0: 1}, {1, 2}, range(3), Odd(), list)


def fields_of(error):
    """The fields of an error, with their classes: True is not 1."""
    return {name: field_of(getattr(error, name)) for name in FIELDS if hasattr(error, name)}


def field_of(value):
    """A field with its class; of an error that stands there the fields."""
    return (type(value), fields_of(value) if isinstance(value, NearError) else value)


class Case(unittest.TestCase):
    """A test case that knows the errors of the package."""

    def fails(self, error, call, *told, **named):
        """The call raises just such an error: of its class, with its fields."""
        try:
            answer = call(*told, **named)
        except NearError as raised:
            self.assertIs(type(raised), type(error), (told, named))
            self.assertEqual(fields_of(raised), fields_of(error), (told, named))
        else:
            self.fail(f"no error, but {answer!r} for {told!r} {named!r}")

    def same(self, told, expected):
        """Equal, and of one class, all the way in."""
        self.assertEqual(told, expected)
        self.assertEqual(kinds(told), kinds(expected))

    def gives(self, method, expected, *told):
        """`same` for the answer of a call."""
        self.same(method(*told), expected)

    def reads_changed(self, make, texts, first_wrong):
        """Texts with an item changed are read, or the item that first_wrong tells, a second way, is told."""
        for text in texts:
            for items in changed(text.split(" "), ODD_ITEMS):
                told, item = " ".join(items), first_wrong(items)
                if item is None:
                    self.same(str(make.read(told)), told)
                else:
                    self.fails(BadText(0, item), make.read, told)


def kinds(value):
    """The classes of a value and of all that is in it."""
    if isinstance(value, (list, tuple)):
        return (type(value), [kinds(one) for one in value])
    return type(value)


class Numbers:
    """Integers one behind another, the same ones in each run."""

    def __init__(self, seed):
        self.state = seed * 7919 + 12345

    def below(self, bound):
        """An integer from 0 to bound - 1."""
        self.state = (self.state * 6364136223846793005 + 1442695040888963407) % 2 ** 64
        return (self.state >> 24) % bound

    def some(self, many, bound):
        """So many integers below the bound."""
        return [self.below(bound) for _ in range(many)]

    def pick(self, values, many):
        """So many of these values, at unlike places, in any order."""
        left = list(values)
        return [left.pop(self.below(len(left))) for _ in range(many)]


def changed(items, odd):
    """The items with one exchanged, put in, left out or put behind."""
    for at in range(len(items)):
        for item in odd:
            yield items[:at] + [item] + items[at + 1:]
            yield items[:at] + [item] + items[at:]
        if len(items) > 1:
            yield items[:at] + items[at + 1:]
        if at > 0:
            yield items[:at]
    for item in odd:
        yield items + [item]

ODD_ITEMS = ("", "0", "1", "2", "3", "4", "5", "6", "7", "8", "12", "16", "97", "101", "-1", "-0", "+1", "01", "00",
             ":", "/", "at", "At", "x", "1.0", "1_0", "3\n", "\t3", "\u0663", "\u00b2", "9" * 61, "1" * 5000)
PRIMES_WRITTEN = [str(p) for p in range(2, 98) if all(p % q for q in range(2, p))]
