"""Readings: what is offered at each place of a scheme, with weights."""

from allnear.checks import first_twice, is_integer, is_list, is_sign, is_within
from allnear.errors import BadNumber, BadReading, BadText, NoOffer, NoPlace, TooMany, Twice
from allnear.schemes import Scheme, read_head, read_place
from allnear.texts import is_item, items_of, read_number
from allnear.words import row_of

MOST_OFFERS = 24
MOST_WEIGHT = 3


class Reading:
    """The reading of this scheme with these offers: for each place pairs of a value and a weight."""

    def __init__(self, scheme, offers):
        if not isinstance(scheme, Scheme):
            raise BadReading("scheme")
        if not is_offers(scheme, offers):
            raise BadReading("offers")
        for pairs in offers:
            twice = first_twice([value for value, _ in pairs])
            if twice is not None:
                raise Twice(twice)
        if sum([len(pairs) for pairs in offers]) > MOST_OFFERS:
            raise TooMany("offers", MOST_OFFERS)
        self.scheme = scheme
        self.offers = tuple([tuple(sorted([(value, weight) for value, weight in pairs])) for pairs in offers])
        self.points = points_of(scheme.places, self.offers)
        told = [weight for pairs in self.offers for _, weight in pairs]
        self.weights = sum(told)
        self.squares = sum([weight * weight for weight in told])
        self.is_plain = all([len(pairs) < 2 for pairs in self.offers]) and self.weights == len(told)

    def __eq__(self, other):
        return type(self) is type(other) and self.scheme == other.scheme and self.offers == other.offers

    def __str__(self):
        places = [place_text(place, pairs) for place, pairs in zip(self.scheme.places, self.offers)]
        return " ".join([str(self.scheme.p), str(self.scheme.k), *places])

    def score(self, word):
        """The weights of the word's right offers, added up."""
        return sum([weight for sign, pairs in zip(row_of(self.scheme, word), self.offers)
                    for value, weight in pairs if value == sign])

    def right(self, word):
        """The numbers of the places at which the word is right, ascending."""
        row = row_of(self.scheme, word)
        return tuple([index for index, pairs in enumerate(self.offers) if is_offered(pairs, row[index])])

    def with_offer(self, index, value, weight):
        """The reading with this offer put in at a place."""
        need_place(self.scheme, index)
        if not is_sign(self.scheme.p, value):
            raise BadNumber("value")
        if not is_within(weight, 1, MOST_WEIGHT):
            raise BadNumber("weight")
        offers = list(self.offers)
        offers[index] = (*offers[index], (value, weight))
        return Reading(self.scheme, offers)

    def without(self, index, value):
        """The reading with the offer of this value struck at a place."""
        need_place(self.scheme, index)
        if not is_integer(value) or not is_offered(self.offers[index], value):
            raise NoOffer(value)
        offers = list(self.offers)
        offers[index] = [pair for pair in offers[index] if pair[0] != value]
        return Reading(self.scheme, offers)

    def moved(self, word):
        """The reading with the word's value at each place added to the values there."""
        row = row_of(self.scheme, word)
        return Reading(self.scheme, [
            [((value + sign) % self.scheme.p, weight) for value, weight in pairs]
            for sign, pairs in zip(row, self.offers)])

    def stretched(self, by):
        """The reading with each value taken times this integer."""
        if not is_integer(by) or by % self.scheme.p == 0:
            raise BadNumber("by")
        return Reading(self.scheme, [
            [(value * by % self.scheme.p, weight) for value, weight in pairs] for pairs in self.offers])

    def renamed(self, stretch, shift):
        """The same offers, of the renamed scheme."""
        return Reading(self.scheme.renamed(stretch, shift), self.offers)

    @staticmethod
    def plain(scheme, row):
        """The plain reading with these values, None for a lost place."""
        if not isinstance(scheme, Scheme):
            raise BadReading("scheme")
        if not is_plain_row(scheme, row):
            raise BadReading("row")
        return Reading(scheme, [[] if value is None else [(value, 1)] for value in row])

    @staticmethod
    def read(text):
        """The reading with this text."""
        items = items_of(text)
        p, k = read_head(items)
        at, places, offers, many = 2, [], [], 0
        while at < len(items) or len(places) < k:
            places.append(read_place(items, at, p, places))
            pairs = read_pairs(items, at + 2, p, MOST_OFFERS - many)
            offers.append(pairs)
            many = many + len(pairs)
            at = at + 2 + 2 * len(pairs)
        return Reading(Scheme(p, places, k), offers)


def need_reading(reading):
    """Nothing, but this must be a reading."""
    if not isinstance(reading, Reading):
        raise BadReading("reading")


def need_place(scheme, index):
    """Nothing, but this must be the number of a place."""
    if not is_within(index, 0, len(scheme) - 1):
        raise NoPlace(index)


def is_offer(p, value):
    """Whether it is a pair of a sign and a weight."""
    return is_list(value) and len(value) == 2 and is_sign(p, value[0]) and is_within(value[1], 1, MOST_WEIGHT)


def is_offers(scheme, value):
    """Whether it is a list of lists of offers, one for each place."""
    if not is_list(value) or len(value) != len(scheme):
        return False
    return all([is_list(pairs) and all([is_offer(scheme.p, pair) for pair in pairs]) for pairs in value])


def is_plain_row(scheme, value):
    """Whether it is a list of as many signs or None as there are places."""
    if not is_list(value) or len(value) != len(scheme):
        return False
    return all([one is None or is_sign(scheme.p, one) for one in value])


def is_offered(pairs, sign):
    """Whether this sign is the value of one of the offers."""
    return any([value == sign for value, _ in pairs])


def points_of(places, offers):
    """All offers as triples of a place, a value and a weight, place by place."""
    return tuple([(place, value, weight) for place, pairs in zip(places, offers) for value, weight in pairs])


def place_text(place, pairs):
    """The text of a place and its offers."""
    return " ".join([f"at {place}", *[f"{value} {weight}" for value, weight in pairs]])


def read_pairs(items, start, p, most):
    """The offers of one place, so many at most, that are told from this index on."""
    pairs = []
    at, least = start, 0
    while at < len(items) and not is_item(items, at, "at"):
        if len(pairs) == most:
            raise BadText(0, at)
        value = read_number(items, at, least, p - 1)
        pairs.append((value, read_number(items, at + 1, 1, MOST_WEIGHT)))
        at, least = at + 2, value + 1
    return pairs
