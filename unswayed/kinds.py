"""Judging the kinds of values that are handed in."""

from unswayed.errors import BadPoint, BadPrime

PRIMES = (2, 3, 5, 7, 11, 13, 17, 19, 23, 29, 31, 37, 41, 43, 47, 53, 59, 61, 67, 71, 73, 79, 83, 89, 97)


def is_number(thing):
    """Whether a value is a whole number; True and False are none."""
    return isinstance(thing, int) and not isinstance(thing, bool)


def is_within(thing, least, most):
    """Whether a value is a number from least to most."""
    return is_number(thing) and least <= thing <= most


def is_list(thing):
    """Whether a value may be given where a list is wanted."""
    return isinstance(thing, (list, tuple))


def are_numbers(thing, many):
    """Whether a value is a list of so many whole numbers."""
    return is_list(thing) and len(thing) == many and all([is_number(item) for item in thing])


def is_prime(thing):
    """Whether a value is a prime that the package works with."""
    return is_number(thing) and thing in PRIMES


def check_prime(prime):
    """BadPrime unless prime is a prime from 2 to 97."""
    if not is_prime(prime):
        raise BadPrime("a prime from 2 to 97 is wanted")


def point_of(point, wide, prime):
    """The point as a tuple of numbers from 0 to prime - 1; BadPoint unless it is a list of wide numbers."""
    if not are_numbers(point, wide):
        raise BadPoint("a list of as many whole numbers as there are unknowns is wanted")
    return tuple([number % prime for number in point])
