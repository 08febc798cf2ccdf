"""Determinants of slopes, and polynomials divided by polynomials."""

from heapq import heapify, heappop, heappush
from itertools import permutations

from unswayed.counting import undone
from unswayed.errors import BadPoly, TooMany
from unswayed.kinds import is_list
from unswayed.packs import MOST_DEGREE, pack_of, pack_row, unpack_row
from unswayed.polys import Poly, check_pair, constant, poly_of_pack, poly_product, poly_scaled, poly_sum
from unswayed.putting import slope


def slope_determinant(polys):
    """The determinant whose line i has in column j the slope of polys[i] in the direction of unknown j."""
    if not is_list(polys) or not 1 <= len(polys) <= 3 or not all([isinstance(poly, Poly) for poly in polys]):
        raise BadPoly("a list of 1 to 3 Polys is wanted")
    wide = len(polys)
    if not all([poly.prime == polys[0].prime and poly.wide == wide for poly in polys]):
        raise BadPoly("Polys of one prime, in as many unknowns as there are Polys, are wanted")
    slopes = [[slope(poly, spot) for spot in range(wide)] for poly in polys]
    return determinant_of(slopes)


def determinant_of(lines):
    """The determinant of a square list of lists of Polys; TooMany(120) if one of its products is too high."""
    first = lines[0][0]
    total = constant(first.prime, first.wide, 0)
    kept = []
    for spots in permutations(range(len(lines))):
        factors = [line[spot] for line, spot in zip(lines, spots)]
        degrees = [factor.degree for factor in factors]
        if min(degrees) >= 0:
            if sum(degrees) > MOST_DEGREE:
                raise TooMany(MOST_DEGREE)
            kept.append((sign_of_sequence(spots), factors))
    for sign, factors in kept:
        part = factors[0]
        for factor in factors[1:]:
            part = poly_product(part, factor)
        total = poly_sum(total, poly_scaled(part, sign))
    return total


def sign_of_sequence(spots):
    """1 if an even number of pairs of the numbers stand the wrong way about, otherwise -1."""
    wrong = [1 for at, spot in enumerate(spots) for before in spots[:at] if before > spot]
    return -1 if len(wrong) % 2 else 1


def divided(one, other):
    """The Poly whose product with other is one; None if there is none."""
    check_pair(one, other)
    if other.degree < 0:
        raise BadPoly("a Poly with terms is wanted")
    left = pack_of(one.terms)
    parts = pack_of(other.terms)
    top = max(parts)
    row = unpack_row(top, one.wide)
    factor = undone(parts[top], one.prime)
    found = {}
    # The greatest row first: what is left must have a multiple of the greatest row of other there.
    queue = [-whole for whole in left]
    heapify(queue)
    while queue:
        whole = -heappop(queue)
        number = left.get(whole, 0) % one.prime
        if number:
            rest = row_less(unpack_row(whole, one.wide), row)
            if rest is None:
                return None
            key = pack_row(rest)
            found[key] = number * factor % one.prime
            for more, value in parts.items():
                if key + more not in left:
                    heappush(queue, -(key + more))
                left[key + more] = (left.get(key + more, 0) - found[key] * value) % one.prime
    return poly_of_pack(one.prime, one.wide, found)


def row_less(one, other):
    """The exponents of one less those of other; None if one of them would be below 0."""
    rest = tuple([x - y for x, y in zip(one, other)])
    return None if min(rest) < 0 else rest
