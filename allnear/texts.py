"""Reading texts: each function reads the item at an index, or raises BadText for it.

Where an item is missing, its index is the number of items; so one error serves both.
"""

from allnear.checks import is_prime, is_within
from allnear.errors import BadText

MOST_DIGITS = 60


def items_of(text):
    """The items of a text."""
    if not isinstance(text, str):
        raise BadText(0, 0)
    return text.split(" ")


def is_item(items, at, word):
    """Whether this word stands at this index."""
    return at < len(items) and items[at] == word


def number_of(item):
    """The integer that is written so, None if none is."""
    digits = item.removeprefix("-")
    if not (digits.isascii() and digits.isdecimal()) or len(digits) > MOST_DIGITS:
        return None
    if digits[0] == "0" and item != "0":
        return None
    return int(item)


def read_number(items, at, least, most):
    """The integer from least to most at this index; None is no bound."""
    number = number_of(items[at]) if at < len(items) else None
    if not is_within(number, least, most):
        raise BadText(0, at)
    return number


def read_prime(items, at):
    """The prime at this index."""
    number = read_number(items, at, None, None)
    if not is_prime(number):
        raise BadText(0, at)
    return number


def read_word(items, at, word):
    """Nothing, but this word must stand at this index."""
    if not is_item(items, at, word):
        raise BadText(0, at)
