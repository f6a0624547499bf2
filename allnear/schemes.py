"""Schemes: a prime, the places at which words are written, and how many coefficients a word has."""

from allnear.checks import first_twice, is_integer, is_prime, is_signs, is_within
from allnear.errors import BadNumber, BadScheme, BadText, Twice
from allnear.texts import items_of, read_number, read_prime, read_word

MOST_PLACES = 16
MOST_K = 6


class Scheme:
    """The scheme of this prime, with these places, for words of k coefficients."""

    def __init__(self, p, places, k):
        if not is_prime(p):
            raise BadScheme("p")
        if not is_signs(p, places) or not 2 <= len(places) <= MOST_PLACES:
            raise BadScheme("places")
        twice = first_twice(places)
        if twice is not None:
            raise Twice(twice)
        if not is_within(k, 2, min(MOST_K, len(places))):
            raise BadScheme("k")
        self.p = p
        self.places = tuple(places)
        self.k = k

    def __len__(self):
        return len(self.places)

    def __eq__(self, other):
        return (type(self) is type(other) and self.p == other.p and self.places == other.places
                and self.k == other.k)

    def __str__(self):
        places = [f"at {place}" for place in self.places]
        return " ".join([str(self.p), str(self.k), *places])

    def renamed(self, stretch, shift):
        """The scheme with the place stretch * a + shift for each place a."""
        if not is_integer(stretch) or stretch % self.p == 0:
            raise BadNumber("stretch")
        if not is_integer(shift):
            raise BadNumber("shift")
        return Scheme(self.p, [(stretch * place + shift) % self.p for place in self.places], self.k)

    @staticmethod
    def read(text):
        """The scheme with this text."""
        items = items_of(text)
        p, k = read_head(items)
        at, places = 2, []
        while at < len(items) or len(places) < k:
            places.append(read_place(items, at, p, places))
            at = at + 2
        return Scheme(p, places, k)


def read_head(items):
    """The p and the k that begin the text of a scheme."""
    p = read_prime(items, 0)
    return p, read_number(items, 1, 2, min(MOST_K, p))


def read_place(items, at, p, places):
    """The place that is told here by two items, behind these places."""
    if len(places) == min(MOST_PLACES, p):
        raise BadText(0, at)
    read_word(items, at, "at")
    place = read_number(items, at + 1, 0, p - 1)
    if place in places:
        raise BadText(0, at + 1)
    return place
