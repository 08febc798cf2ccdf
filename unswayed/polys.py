"""Polynomials over a prime field."""

from unswayed.errors import BadNumber, BadPoint, BadPoly, TooMany
from unswayed.kinds import are_numbers, check_prime, is_number, is_within
from unswayed.packs import MOST_DEGREE, check_rows, level_rows, pack_of, pack_power, pack_product, pack_sum, terms_of

MOST_UNKNOWNS = 12


class Poly:
    """A polynomial in wide unknowns; terms tells the number of each row of exponents."""

    def __init__(self, prime, wide, terms):
        check_prime(prime)
        if not is_within(wide, 1, MOST_UNKNOWNS):
            raise BadPoly("a polynomial has from 1 to 12 unknowns")
        if not isinstance(terms, dict) or not all([is_term(row, number, wide) for row, number in terms.items()]):
            raise BadPoly("the terms are no dict from rows of exponents to whole numbers")
        if any([sum(row) > MOST_DEGREE for row in terms]):
            raise TooMany(MOST_DEGREE)
        self.prime = prime
        self.wide = wide
        self._terms = {row: terms[row] % prime for row in sorted(terms) if terms[row] % prime}
        self.degree = max([sum(row) for row in self._terms], default=-1)

    @property
    def terms(self):
        """A new dict from rows to numbers, rows ascending."""
        return {row: self._terms[row] for row in self._terms}

    def __eq__(self, other):
        return (isinstance(other, Poly) and self.prime == other.prime and self.wide == other.wide
                and self._terms == other._terms)


def is_term(row, number, wide):
    """Whether a value is a row of wide exponents, and another one a whole number."""
    return (isinstance(row, tuple) and are_numbers(row, wide) and all([exponent >= 0 for exponent in row])
            and is_number(number))


def check_poly(thing):
    """BadPoly unless the value is a Poly."""
    if not isinstance(thing, Poly):
        raise BadPoly("a Poly is wanted")


def check_pair(one, other):
    """BadPoly unless both values are Polys with the same prime and unknowns."""
    check_poly(one)
    check_poly(other)
    if one.prime != other.prime or one.wide != other.wide:
        raise BadPoly("the polynomials have unlike primes or numbers of unknowns")


def poly_of_pack(prime, wide, pack):
    """The Poly that is told by a pack."""
    return Poly(prime, wide, terms_of(pack, wide))


def letter(prime, wide, spot):
    """The Poly that is the unknown with the index spot."""
    check_prime(prime)
    if not is_within(wide, 1, MOST_UNKNOWNS):
        raise BadNumber("wide")
    if not is_within(spot, 0, wide - 1):
        raise BadNumber("spot")
    return Poly(prime, wide, {tuple([1 if place == spot else 0 for place in range(wide)]): 1})


def constant(prime, wide, number):
    """The Poly that is this number everywhere."""
    check_prime(prime)
    if not is_within(wide, 1, MOST_UNKNOWNS):
        raise BadNumber("wide")
    if not is_number(number):
        raise BadNumber("number")
    return Poly(prime, wide, {(0,) * wide: number})


def poly_sum(one, other):
    """The sum of two Polys."""
    check_pair(one, other)
    pack = pack_sum(pack_of(one.terms), pack_of(other.terms), one.prime)
    return poly_of_pack(one.prime, one.wide, pack)


def poly_product(one, other):
    """The product of two Polys."""
    check_pair(one, other)
    if one.degree + other.degree > MOST_DEGREE:
        raise TooMany(MOST_DEGREE)
    pack = pack_product(pack_of(one.terms), pack_of(other.terms), one.prime)
    return poly_of_pack(one.prime, one.wide, pack)


def poly_scaled(one, number):
    """The Poly with each of its numbers multiplied by number."""
    check_poly(one)
    if not is_number(number):
        raise BadNumber("number")
    return Poly(one.prime, one.wide, {row: value * number for row, value in one.terms.items()})


def poly_power(one, times):
    """The product of so many factors one."""
    check_poly(one)
    if not is_within(times, 0, MOST_DEGREE):
        raise BadNumber("times")
    if one.degree * times > MOST_DEGREE:
        raise TooMany(MOST_DEGREE)
    return poly_of_pack(one.prime, one.wide, pack_power(pack_of(one.terms), times, one.prime))


def value_at(one, point):
    """The number from 0 to prime - 1 that comes of putting the numbers of a point in."""
    check_poly(one)
    if not are_numbers(point, one.wide):
        raise BadPoint("a list of as many whole numbers as there are unknowns is wanted")
    powers = [power_row(number, one.degree, one.prime) for number in point]
    total = 0
    for row, number in one.terms.items():
        part = number
        for exponent, power in zip(row, powers):
            part = part * power[exponent] % one.prime
        total = total + part
    return total % one.prime


def power_row(number, most, prime):
    """The powers of a number modulo prime, up to the one with most as exponent."""
    powers = [1]
    for _ in range(most):
        powers.append(powers[-1] * number % prime)
    return powers


def is_level(one):
    """Whether all rows of a Poly have one sum."""
    check_poly(one)
    return all([sum(row) == one.degree for row in one.terms])


def layer_of(one, degree):
    """The Poly of the terms whose rows have this sum."""
    check_poly(one)
    if not is_within(degree, 0, MOST_DEGREE):
        raise BadNumber("degree")
    return Poly(one.prime, one.wide, {row: number for row, number in one.terms.items() if sum(row) == degree})


def rows_of(wide, degree):
    """The ascending list of all rows of wide exponents with this sum."""
    if not is_within(wide, 1, MOST_UNKNOWNS):
        raise BadNumber("wide")
    if not is_within(degree, 0, MOST_DEGREE):
        raise BadNumber("degree")
    check_rows(wide, degree)
    return level_rows(wide, degree)
