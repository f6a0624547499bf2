"""Rests: what is left of a whole number at several primes."""

from allnear.checks import first_twice, is_integer, is_list, is_prime, is_within
from allnear.errors import BadNumber, BadRests, BadText, NoPrime, Twice
from allnear.signs import inverse_of
from allnear.texts import is_item, items_of, read_number, read_prime, read_word

LEAST_PRIMES = 2
MOST_PRIMES = 8


class Rests:
    """These primes with their rests, None where it is lost, and the greatest number that is meant."""

    def __init__(self, primes, rests, most):
        if not are_primes(primes):
            raise BadRests("primes")
        twice = first_twice(primes)
        if twice is not None:
            raise Twice(twice)
        if not are_rests(primes, rests):
            raise BadRests("rests")
        product, number = joined(primes, rests)
        if not is_within(most, 1, product - 1):
            raise BadNumber("most")
        self.primes = tuple(primes)
        self.rests = tuple(rests)
        self.most = most
        self.product = product
        self.number = number

    def __eq__(self, other):
        return (type(self) is type(other) and self.primes == other.primes and self.rests == other.rests
                and self.most == other.most)

    def __str__(self):
        pairs = [f"{prime} {'-' if rest is None else rest}" for prime, rest in zip(self.primes, self.rests)]
        return f"{self.most} : {' / '.join(pairs)}"

    def worth(self, number):
        """The product of the primes at which the number is right."""
        worth = 1
        for prime in self.right(number):
            worth = worth * prime
        return worth

    def right(self, number):
        """The primes at which the number is right, as they were told."""
        if not is_within(number, 0, self.most):
            raise BadNumber("number")
        # What is divided leaves no None, so a lost prime is never right.
        return tuple([prime for prime, rest in zip(self.primes, self.rests) if number % prime == rest])

    def with_rest(self, prime, rest):
        """The Rests with this rest for the prime, in the place of what stood there."""
        need_prime(self.primes, prime)
        if not is_within(rest, 0, prime - 1):
            raise BadNumber("rest")
        return Rests(self.primes, exchanged(self, prime, rest), self.most)

    def without(self, prime):
        """The Rests in which that of the prime is lost."""
        need_prime(self.primes, prime)
        return Rests(self.primes, exchanged(self, prime, None), self.most)

    @staticmethod
    def read(text):
        """The Rests with this text."""
        items = items_of(text)
        most = read_number(items, 0, 1, None)
        primes, rests = [], []
        at = 1
        while at < len(items) or len(primes) < LEAST_PRIMES:
            if len(primes) == MOST_PRIMES:
                raise BadText(0, at)
            read_word(items, at, "/" if primes else ":")
            primes.append(read_new_prime(items, at + 1, primes))
            rests.append(read_rest(items, at + 2, primes[-1]))
            at = at + 3
        if most >= joined(primes, rests)[0]:
            raise BadText(0, len(items) - 1)
        return Rests(primes, rests, most)


def need_rests(rests):
    """Nothing, but these must be Rests."""
    if not isinstance(rests, Rests):
        raise BadRests("rests")


def need_prime(primes, value):
    """Nothing, but it must be one of these primes."""
    if not is_integer(value) or value not in primes:
        raise NoPrime(value)


def are_primes(value):
    """Whether it is a list of 2 to 8 primes."""
    return is_list(value) and LEAST_PRIMES <= len(value) <= MOST_PRIMES and all([is_prime(one) for one in value])


def are_rests(primes, value):
    """Whether it is a list of one rest, or None, for each of the primes."""
    if not is_list(value) or len(value) != len(primes):
        return False
    return all([rest is None or is_within(rest, 0, prime - 1) for prime, rest in zip(primes, value)])


def joined(primes, rests):
    """The product of the primes that have a rest, and the integer below it that leaves all of these."""
    product, number = 1, 0
    for prime, rest in zip(primes, rests):
        if rest is not None:
            # So many times the product ahead mends this rest, and spoils none of those ahead.
            times = (rest - number) * inverse_of(prime, product % prime) % prime
            product, number = product * prime, number + times * product
    return product, number


def exchanged(rests, prime, rest):
    """All rests, that of the prime exchanged for this one."""
    return [rest if one == prime else other for one, other in zip(rests.primes, rests.rests)]


def read_new_prime(items, at, primes):
    """The prime at this index that is none of these."""
    prime = read_prime(items, at)
    if prime in primes:
        raise BadText(0, at)
    return prime


def read_rest(items, at, prime):
    """The rest of this prime at this index, None for a lost one."""
    return None if is_item(items, at, "-") else read_number(items, at, 0, prime - 1)
