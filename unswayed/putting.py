"""Polynomials put into polynomials, and slopes."""

from unswayed.errors import BadNumber, BadPoly, TooMany
from unswayed.kinds import is_list, is_within
from unswayed.packs import MOST_DEGREE, pack_of, pack_put
from unswayed.polys import Poly, check_poly, poly_of_pack


def put_in(one, others):
    """The Poly that comes of one when others are put in for its unknowns."""
    check_poly(one)
    if not are_polys(others, one.wide, one.prime):
        raise BadPoly("a list of as many Polys of one prime and wide as there are unknowns is wanted")
    degrees = [other.degree for other in others]
    # A Poly without terms makes each term with it as a factor vanish, however high the other degrees are.
    terms = {row: number for row, number in one.terms.items() if not has_zero(row, degrees)}
    if any([put_degree(row, degrees) > MOST_DEGREE for row in terms]):
        raise TooMany(MOST_DEGREE)
    pack = pack_put(terms, [pack_of(other.terms) for other in others], one.prime)
    return poly_of_pack(one.prime, others[0].wide, pack)


def are_polys(thing, many, prime):
    """Whether a value is a list of so many Polys of this prime, all in as many unknowns."""
    if not is_list(thing) or len(thing) != many:
        return False
    if not all([isinstance(item, Poly) for item in thing]):
        return False
    return all([item.prime == prime and item.wide == thing[0].wide for item in thing])


def has_zero(row, degrees):
    """Whether a row has an exponent above 0 at a Poly without terms."""
    return any([exponent > 0 and degree < 0 for exponent, degree in zip(row, degrees)])


def put_degree(row, degrees):
    """The sum of the exponents of a row, each times the degree of what is put in."""
    return sum([exponent * degree for exponent, degree in zip(row, degrees)])


def slope(one, spot):
    """The slope of a Poly in the direction of the unknown with the index spot."""
    check_poly(one)
    if not is_within(spot, 0, one.wide - 1):
        raise BadNumber("spot")
    terms = {}
    for row, number in one.terms.items():
        if row[spot]:
            terms[row[:spot] + (row[spot] - 1,) + row[spot + 1:]] = number * row[spot]
    return Poly(one.prime, one.wide, terms)
