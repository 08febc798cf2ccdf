"""Others for a free lot: what is found, judged and told with them.

All is worked out for the polynomials that change by the numbers of a toll alone;
with the toll of numbers 1 these are the unswayed ones.
"""

from unswayed.climbs import toll_climb
from unswayed.cycles import lessened_row, row_for
from unswayed.echelons import echelon_of
from unswayed.errors import TooMany
from unswayed.kinds import is_list
from unswayed.levels import Levels, told_in
from unswayed.packs import MOST_DEGREE, check_rows
from unswayed.polys import Poly, is_level


def counts_over(house, lot, toll):
    """How many others of each degree there are for the lot."""
    row = row_for(house, toll, 0)
    return lessened_row(house.wide, row, [poly.degree for poly in lot])


class Choice:
    """What others of the present degree are chosen among, and what they must be independent of."""

    def __init__(self, house, lot, toll, most):
        self.levels = Levels(house.prime, house.wide, most)
        self.layers = lot_layers(self.levels, lot, most)
        self.climb = toll_climb(house, toll)

    def go_to(self, degree):
        """Goes on to this degree, which is not below the present one."""
        while self.climb.degree < degree:
            self.climb.up()

    def taken(self, lower):
        """The Echelon of all products, of the present degree, of others of lower degrees and Polys of the lot."""
        pairs = products_of(self.levels, self.layers, lower, self.climb.degree)
        return echelon_of(self.levels.prime, len(self.climb.rows), [vector for _, vector in pairs])


def found_others(house, lot, toll):
    """Others for the lot, by degrees; TooMany(120) if one of them has a higher degree."""
    counts = counts_over(house, lot, toll)
    if len(counts) > MOST_DEGREE + 1:
        raise TooMany(MOST_DEGREE)
    choice = Choice(house, lot, toll, len(counts))
    found = []
    for degree, many in enumerate(counts):
        if many:
            choice.go_to(degree)
            taken = choice.taken(found)
            chosen = [numbers for numbers in choice.climb.unswayed() if taken.put(numbers)]
            found = found + [choice.climb.poly(numbers) for numbers in chosen]
    return found


def lot_layers(levels, lot, most):
    """For each degree up to most the dict from the rows of exponents to the products of the lot of this degree."""
    layers = [{(0,) * len(lot): 1}]
    packs = [levels.pack_of(poly) if poly.degree <= most else 0 for poly in lot]
    for degree in range(1, most + 1):
        layer = {}
        for spot, (poly, pack) in enumerate(zip(lot, packs)):
            below = layers[degree - poly.degree] if poly.degree <= degree else {}
            for row, whole in below.items():
                # Each product comes once: by the last Poly of the lot that is a factor.
                if not any(row[spot + 1:]):
                    key = row[:spot] + (row[spot] + 1,) + row[spot + 1:]
                    layer[key] = levels.product(whole, pack, degree)
        layers.append(layer)
    return layers


def products_of(levels, layers, several, degree):
    """The pairs of a name and the numbers of all products of this degree of one of several and some of the lot.

    The name is the index of the one of several, then the row of exponents.
    """
    pairs = []
    for at, item in enumerate(several):
        if item.degree <= degree:
            pack = levels.pack_of(item)
            for row, whole in layers[degree - item.degree].items():
                pairs.append(((at, row), levels.unpack(whole * pack, degree)))
    return pairs


def are_found_others(house, lot, toll, thing):
    """Whether any value is a list of others for the lot, in any sequence."""
    if not is_list(thing) or not all([is_level_poly(house, item) for item in thing]):
        return False
    counts = counts_over(house, lot, toll)
    degrees = [item.degree for item in thing]
    if min(degrees, default=0) < 0 or max(degrees, default=0) >= len(counts):
        return False
    if not all([degrees.count(degree) == many for degree, many in enumerate(counts)]):
        return False
    choice = Choice(house, lot, toll, len(counts))
    lower = []
    for degree, many in enumerate(counts):
        if many:
            choice.go_to(degree)
            items = [item for item in thing if item.degree == degree]
            if not are_chosen(choice, lower, items):
                return False
            lower = lower + items
    return True


def is_level_poly(house, thing):
    """Whether any value is a level Poly of the house's prime and wide."""
    if not isinstance(thing, Poly) or thing.prime != house.prime or thing.wide != house.wide:
        return False
    return is_level(thing)


def are_chosen(choice, lower, items):
    """Whether items are among what others are chosen among, and independent of one another and of what is taken."""
    climb = choice.climb
    rows = [choice.levels.numbers_of(item, climb.degree) for item in items]
    within = echelon_of(climb.prime, len(climb.rows), climb.unswayed())
    if any([any(within.rest(row)) for row in rows]):
        return False
    taken = choice.taken(lower)
    return all([taken.put(row) for row in rows])


def check_layers(poly):
    """TooMany(300) if a Poly has a row of a degree of which there are more than 300."""
    for row in poly.terms:
        check_rows(poly.wide, sum(row))


def told_by_lot(lot, several, poly):
    """The list of Polys, one for each of several, that tell poly by the lot; None if there is none."""
    check_layers(poly)
    prime = poly.prime
    levels = Levels(prime, poly.wide, max(poly.degree, 0))
    layers = lot_layers(levels, lot, max(poly.degree, 0))
    terms = [{} for _ in several]
    for degree in sorted({sum(row): True for row in poly.terms}):
        pairs = products_of(levels, layers, several, degree)
        goal = levels.numbers_of(poly, degree)
        told = told_in(prime, [vector for _, vector in pairs], [goal])[0]
        if told is None:
            return None
        for ((at, row), _), number in zip(pairs, told):
            terms[at][row] = number
    return [Poly(prime, poly.wide, part) for part in terms]
