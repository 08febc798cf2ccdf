"""Others for a free lot: what is found, judged and told with them.

All is worked out for the polynomials that change by the numbers of a toll alone;
with the toll of numbers 1 these are the unswayed ones.
"""

from unswayed.climbs import toll_climb
from unswayed.cycles import lessened_row, row_for
from unswayed.echelons import Echelon, echelon_of
from unswayed.errors import TooMany
from unswayed.kinds import is_list
from unswayed.levels import Levels, told_in
from unswayed.packs import MOST_DEGREE, check_rows
from unswayed.polys import Poly, is_level


def counts_over(house, lot, toll):
    """How many others of each degree there are for the lot."""
    row = row_for(house, toll, 0)
    return lessened_row(house.wide, row, [poly.degree for poly in lot])


def found_others(house, lot, toll):
    """Others for the lot, by degrees; TooMany(120) if one of them has a higher degree."""
    counts = counts_over(house, lot, toll)
    if len(counts) > MOST_DEGREE + 1:
        raise TooMany(MOST_DEGREE)
    levels = Levels(house.prime, house.wide, len(counts))
    layers = lot_layers(levels, lot, len(counts))
    climb = toll_climb(house, toll)
    found = []
    for degree, many in enumerate(counts):
        if degree:
            climb.up()
        if many:
            echelon = Echelon(house.prime, len(climb.rows))
            for _, vector in products_of(levels, layers, found, degree):
                echelon.put(vector)
            chosen = [numbers for numbers in climb.unswayed() if echelon.put(numbers)]
            found = found + [levels.poly(numbers, degree) for numbers in chosen]
    return found


def lot_layers(levels, lot, most):
    """For each degree up to most the dict from the rows of exponents to the products of the lot of this degree."""
    layers = [{(0,) * len(lot): 1}]
    packs = [levels.pack_of(poly) for poly in lot]
    for degree in range(1, most + 1):
        layer = {}
        for spot, (poly, pack) in enumerate(zip(lot, packs)):
            below = layers[degree - poly.degree] if poly.degree <= degree else {}
            for row, whole in below.items():
                # Each product comes once: by the last Poly of the lot that is a factor.
                if not any(row[spot + 1:]):
                    key = row[:spot] + (row[spot] + 1,) + row[spot + 1:]
                    layer[key] = levels.product(whole, pack, degree)
        layers.append(layer)
    return layers


def products_of(levels, layers, several, degree):
    """The pairs of a name and the numbers of all products of this degree of one of several and some of the lot.

    The name is the index of the one of several, then the row of exponents.
    """
    pairs = []
    for at, item in enumerate(several):
        if item.degree <= degree:
            pack = levels.pack_of(item)
            for row, whole in layers[degree - item.degree].items():
                pairs.append(((at, row), levels.unpack(whole * pack, degree)))
    return pairs


def are_found_others(house, lot, toll, thing):
    """Whether any value is a list of others for the lot, in any sequence."""
    if not is_list(thing) or not all([is_level_poly(house, item) for item in thing]):
        return False
    counts = counts_over(house, lot, toll)
    degrees = [item.degree for item in thing]
    if min(degrees, default=0) < 0 or max(degrees, default=0) >= len(counts):
        return False
    if not all([degrees.count(degree) == many for degree, many in enumerate(counts)]):
        return False
    levels = Levels(house.prime, house.wide, len(counts))
    layers = lot_layers(levels, lot, len(counts))
    climb = toll_climb(house, toll)
    lower = []
    for degree, many in enumerate(counts):
        if degree:
            climb.up()
        if many:
            items = [item for item in thing if item.degree == degree]
            rows = [levels.numbers_of(item, degree) for item in items]
            taken = [vector for _, vector in products_of(levels, layers, lower, degree)]
            if not are_chosen(climb, taken, rows):
                return False
            lower = lower + items
    return True


def is_level_poly(house, thing):
    """Whether any value is a level Poly of the house's prime and wide."""
    if not isinstance(thing, Poly) or thing.prime != house.prime or thing.wide != house.wide:
        return False
    return is_level(thing)


def are_chosen(climb, taken, rows):
    """Whether the rows are among what the climb looks for, and independent of one another and of what is taken."""
    within = echelon_of(climb.prime, len(climb.rows), climb.unswayed())
    if any([any(within.rest(row)) for row in rows]):
        return False
    echelon = echelon_of(climb.prime, len(climb.rows), taken)
    return all([echelon.put(row) for row in rows])


def check_layers(poly):
    """TooMany(300) if a Poly has a row of a degree of which there are more than 300."""
    for row in poly.terms:
        check_rows(poly.wide, sum(row))


def told_by_lot(lot, several, poly):
    """The list of Polys, one for each of several, that tell poly by the lot; None if there is none."""
    check_layers(poly)
    prime = poly.prime
    levels = Levels(prime, poly.wide, max(poly.degree, 0))
    layers = lot_layers(levels, lot, max(poly.degree, 0))
    terms = [{} for _ in several]
    for degree in sorted({sum(row): True for row in poly.terms}):
        pairs = products_of(levels, layers, several, degree)
        goal = levels.numbers_of(poly, degree)
        told = told_in(prime, [vector for _, vector in pairs], [goal])[0]
        if told is None:
            return None
        for ((at, row), _), number in zip(pairs, told):
            terms[at][row] = number
    return [Poly(prime, poly.wide, part) for part in terms]
