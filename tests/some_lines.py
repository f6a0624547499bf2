"""Lines of a desk that several tests look at, and an own look at what each table row tells."""

from allnear.judge import alone
from allnear.looks import best_look, values_at, word_at
from allnear.near import Far, all_near, nearest
from allnear.polys import Poly
from allnear.reaches import reach
from allnear.readings import Reading
from tests.helper import Numbers
from tests.some_readings import SMALL, some_reading

DEED_WORDS = ("set", "read", "offer", "strike", "move", "stretch")
ASK_WORDS = ("reading", "reach", "near", "nearest", "score", "at", "judge", "look", "alone")
# What stands behind each first word: a number, or "text", or "word".
BEHIND = {"set": "text", "read": "text", "offer": 3, "strike": 2, "move": "word", "stretch": 1, "reading": 0,
          "reach": 0, "near": 1, "nearest": 0, "score": "word", "at": 2, "judge": 3, "look": 1, "alone": 1}
NO_STRINGS = (None, True, False, 0, 7, 1.5, b"reach", ["reach"], ("near", 3), {}, {"reach"}, str, Poly(5), SMALL[0])
READINGS = SMALL + [some_reading(97, 16, 2, 24, 1), some_reading(13, 9, 4, 20, 2), some_reading(11, 11, 6, 14, 3, 1)]
READINGS += [Reading(reading.scheme, [[]] * len(reading.scheme)) for reading in SMALL[3:9]]


def coefficients_text(word):
    """A word by its coefficients."""
    return " ".join(map(str, word))


def some_integers(numbers, p, many):
    """So many integers: signs mostly, sometimes greater ones."""
    return [numbers.below((p, p, p, 4, 30, 10 ** 20)[numbers.below(6)]) for _ in range(many)]


def some_line(word, numbers, reading):
    """A line that begins with this word, drawn for a reading."""
    p, behind = reading.scheme.p, BEHIND[word]
    if behind == "word":
        behind = reading.scheme.k + (0, 0, 0, 0, 0, 1, -1)[numbers.below(7)]
        parts = numbers.some(behind, p) if numbers.below(6) else some_integers(numbers, p, behind)
    elif behind == "text":
        other = READINGS[numbers.below(len(READINGS))]
        parts = [str(other if word == "read" else other.scheme)]
    else:
        parts = some_integers(numbers, p, behind)
        if word in ("offer", "strike") and numbers.below(4):
            parts = some_offer(word, numbers, reading)
        elif parts and numbers.below(4) and word in ("near", "at", "judge", "look"):
            parts[0] = reach(reading)[0] + numbers.below(3)
        elif word == "alone" and numbers.below(4):
            parts = [1 + numbers.below(len(reading.scheme))]
    return " ".join([word, *map(str, parts)])


def some_offer(word, numbers, reading):
    """What stands in a line that puts in an offer or takes one out, mostly one that can be."""
    at = numbers.below(len(reading.scheme))
    told = [value for value, _ in reading.offers[at]]
    if word == "strike":
        return [at, told[numbers.below(len(told))] if told else numbers.below(reading.scheme.p)]
    return [at, numbers.below(reading.scheme.p), 1 + numbers.below(3)]


def word_in(items):
    """The integers of a WORD."""
    return tuple(int(item) for item in items[1:])


def word_by_row(reading, items):
    """The word of a line, None if it is none of the scheme."""
    scheme, told = reading.scheme, word_in(items)
    if len(told) != scheme.k or max(told) >= scheme.p:
        return None
    return Poly(scheme.p, told)


def done_by_row(reading, line):
    """The reading and the answer that the table row of a deed line tells, by the methods; errors are theirs."""
    items = line.split(" ")
    numbers = [int(item) for item in items[1:] if item.isdigit()]
    if items[0] == "set":
        scheme = Reading.read(line[4:]).scheme
        return Reading(scheme, [[] for _ in scheme.places]), str(len(scheme.places))
    if items[0] == "read":
        made = Reading.read(line[5:])
    elif items[0] == "offer":
        made = reading.with_offer(*numbers)
    elif items[0] == "strike":
        made = reading.without(*numbers)
    elif items[0] == "move":
        made = reading.moved(word_by_row(reading, items))
    else:
        made = reading.stretched(*numbers)
    return made, str(sum(len(pairs) for pairs in made.offers))


def answered_by_row(reading, line):
    """The answer that the table row of an ask line tells, by the functions; errors are theirs."""
    items = line.split(" ")
    numbers = [int(item) for item in items[1:]]
    if items[0] == "reading":
        return str(reading)
    if items[0] == "score":
        return str(reading.score(word_by_row(reading, items)))
    if items[0] == "near":
        told = all_near(reading, *numbers).words
        return " / ".join(map(coefficients_text, told)) if told else "-"
    if items[0] == "nearest":
        paper = nearest(reading)
        return "far" if type(paper) is Far else str(paper.score) + "".join(
            " / " + coefficients_text(word) for word in paper.words)
    if items[0] == "at":
        return coefficients_text(values_at(reading, *numbers)) or "-"
    if items[0] == "judge":
        return word_at(reading, *numbers)
    if items[0] == "alone":
        return alone(reading.scheme, *numbers).word
    return coefficients_text(best_look(reading, *numbers) if items[0] == "look" else reach(reading))


def right_lines(words, seed, many):
    """So many drawn lines with these first words, each with the reading that it is drawn for."""
    numbers = Numbers(seed)
    for turn in range(many):
        reading = READINGS[numbers.below(len(READINGS))]
        yield reading, some_line(words[turn % len(words)], numbers, reading)
