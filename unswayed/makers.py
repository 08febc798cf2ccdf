"""Makers: few unswayed polynomials whose products make all."""

from unswayed.errors import BadMakers, TooMany
from unswayed.freelots import is_level_unswayed
from unswayed.houses import check_house
from unswayed.kinds import is_list
from unswayed.leadings import check_house_poly
from unswayed.levels import Levels, told_in
from unswayed.lotwork import check_layers
from unswayed.needs import Needs
from unswayed.others import check_lot, check_unswayed
from unswayed.polys import MOST_UNKNOWNS, Poly, check_poly
from unswayed.weighed import check_weight, product_rows


def most_needed(house, lot):
    """A degree above which no Poly is needed: that of the lot and of others for it, or the size."""
    degrees = [poly.degree for poly in lot]
    return min(house.size, max(degrees + [sum(degrees) - house.wide]))


def makers_of(house, lot):
    """Fewest makers of the house, by degrees that do not fall."""
    check_lot(house, lot)
    needs = Needs(house)
    while needs.degree < most_needed(house, lot):
        needs.up()
    return needs.polys()


def chosen_makers(house, lot, thing):
    """Those items of a value that are needed among makers; None if the value is no list of makers."""
    if not is_list(thing) or not all([is_level_unswayed(house, item) and item.degree > 0 for item in thing]):
        return None
    needs = Needs(house)
    found = []
    while needs.degree < most_needed(house, lot):
        needs.up()
        chosen = needs.chosen([item for item in thing if item.degree == needs.degree])
        if len(chosen) < needs.lacking():
            return None
        found = found + chosen
    return found


def are_makers(house, lot, thing):
    """Whether any value is a list of makers of the house."""
    check_lot(house, lot)
    return chosen_makers(house, lot, thing) is not None


def are_fewest(house, lot, thing):
    """Whether any value is a list of makers of the house of which none can be left out."""
    check_lot(house, lot)
    found = chosen_makers(house, lot, thing)
    return found is not None and len(found) == len(thing)


def check_makers(house, lot, makers):
    """The errors of a mild House, a free lot of it and makers."""
    if not are_makers(house, lot, makers):
        raise BadMakers("makers of the house are wanted")


def check_dozen(makers):
    """TooMany(12) if there are more makers than a Poly can have unknowns."""
    if len(makers) > MOST_UNKNOWNS:
        raise TooMany(MOST_UNKNOWNS)


def written(house, lot, makers, poly):
    """A Poly in the makers' unknowns that tells poly."""
    check_house(house)
    check_poly(poly)
    check_makers(house, lot, makers)
    check_house_poly(house, poly)
    check_unswayed(house, poly)
    check_dozen(makers)
    check_layers(poly)
    degrees = sorted({sum(row): True for row in poly.terms})
    weights = [maker.degree for maker in makers]
    for degree in degrees:
        check_weight(weights, degree)
    levels = Levels(house.prime, house.wide, max(poly.degree, 0))
    terms = {}
    for degree in degrees:
        pairs = product_rows(levels, makers, degree)
        goal = levels.numbers_of(poly, degree)
        told = told_in(house.prime, [numbers for _, numbers in pairs], [goal])[0]
        for (row, _), number in zip(pairs, told):
            terms[row] = number
    return Poly(house.prime, len(makers), terms)
