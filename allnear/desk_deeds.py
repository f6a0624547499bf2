"""The deed lines of a desk: each makes a reading, of one that is kept or of none."""

from allnear.desk_lines import DEEDS, read_fitting
from allnear.readings import Reading


def done(reading, line):
    """The Reading that a deed line makes of a Reading or None, and the answer."""
    word, *parts = read_fitting(DEEDS, reading, line)
    deed = MADE[word]
    after = deed(reading, *parts)
    return after, str(len(after.scheme) if word == "set" else len(after.points))


def begun(_, scheme):
    """The reading of this scheme without offers."""
    return Reading(scheme, [()] * len(scheme))


def kept(_, reading):
    """The reading that is told."""
    return reading


def offered(reading, index, value, weight):
    """The reading with an offer put in."""
    return reading.with_offer(index, value, weight)


def struck(reading, index, value):
    """The reading with an offer taken out."""
    return reading.without(index, value)


def moved(reading, word):
    """The reading with the word's values added."""
    return reading.moved(word)


def stretched(reading, by):
    """The reading with all values times a sign."""
    return reading.stretched(by)


MADE = {"set": begun, "read": kept, "offer": offered, "strike": struck, "move": moved, "stretch": stretched}
