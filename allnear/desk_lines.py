"""The lines that a desk is told: their first words, and what stands behind these."""

from allnear.checks import is_signs
from allnear.errors import BadPoly, BadText, Nothing
from allnear.polys import Poly
from allnear.readings import Reading, need_reading
from allnear.schemes import Scheme
from allnear.texts import items_of, read_number

DEEDS = ("set", "read", "offer", "strike", "move", "stretch")
ASKS = ("reading", "reach", "near", "nearest", "score", "at", "judge", "look", "alone")
# Behind these stands a text, so they need no reading.
TEXTS = ("set", "read")
# Behind these stand the integers of a WORD, to the end of the line.
WORDS = ("move", "score")
# How many integers stand behind each other first word.
NUMBERS = {"offer": 3, "strike": 2, "stretch": 1, "reading": 0, "reach": 0, "near": 1, "nearest": 0, "at": 2,
           "judge": 3, "look": 1, "alone": 1}


def read_line(line):
    """The first word of any line, and what the others stand for, in their order."""
    items = items_of(line)
    word = items[0]
    if word in TEXTS:
        return word, read_text(word, " ".join(items[1:]))
    if word in WORDS:
        return word, read_numbers(items, max(2, len(items)))
    if word not in NUMBERS:
        raise BadText(0, 0)
    size = 1 + NUMBERS[word]
    numbers = read_numbers(items, size)
    if len(items) > size:
        raise BadText(0, size)
    return word, *numbers


def read_text(word, text):
    """The value of the text behind this word."""
    try:
        return Scheme.read(text) if word == "set" else Reading.read(text)
    except BadText as wrong:
        # The first word is an item of the line, too.
        raise BadText(0, wrong.item + 1) from None


def read_numbers(items, size):
    """The integers from 0 on that make up, behind the first item, so many items."""
    return tuple([read_number(items, at, 0, None) for at in range(1, size)])


def read_fitting(words, reading, line):
    """A line whose first word is one of these, for a Reading or None: as `read_line`, but a WORD as the word."""
    need_kept(reading)
    if items_of(line)[0] not in words:
        raise BadText(0, 0)
    word, *parts = read_line(line)
    if reading is None and word not in TEXTS:
        raise Nothing()
    if word in WORDS:
        return word, word_told(reading.scheme, parts[0])
    return word, *parts


def need_kept(reading):
    """Nothing, but this must be a reading or None."""
    if reading is not None:
        need_reading(reading)


def word_told(scheme, coefficients):
    """The word of a scheme that is told by its k coefficients."""
    if len(coefficients) != scheme.k or not is_signs(scheme.p, coefficients):
        raise BadPoly("word")
    return Poly(scheme.p, coefficients)
