"""Free lots: as many level unswayed polynomials as unknowns, without a common zero."""

from unswayed.echelons import Echelon
from unswayed.errors import TooMany
from unswayed.houses import check_house
from unswayed.kinds import is_list
from unswayed.leadings import form_poly
from unswayed.levels import Levels
from unswayed.lotsearch import plane_lot, space_lot
from unswayed.packs import MOST_ROWS, row_count
from unswayed.partings import is_unswayed_thing
from unswayed.polys import is_level, poly_power

MOST_SUM = 25


def is_free_lot(house, thing):
    """Whether any value is a free lot of the house."""
    check_house(house)
    if not are_lot_things(house, thing):
        return False
    degrees = [poly.degree for poly in thing]
    above = sum(degrees) - house.wide + 1
    if row_count(house.wide, above) > MOST_ROWS:
        raise TooMany(MOST_ROWS)
    levels = Levels(house.prime, house.wide, above)
    echelon = Echelon(house.prime, row_count(house.wide, above))
    for poly, degree in zip(thing, degrees):
        for numbers in levels.multiples(levels.pack_of(poly), degree, above):
            echelon.put(numbers)
    return len(echelon.spots) == echelon.wide


def are_lot_things(house, thing):
    """Whether any value is a list of wide level unswayed Polys of the house, of degrees from 1 on."""
    if not is_list(thing) or len(thing) != house.wide:
        return False
    return all([is_level_unswayed(house, item) and item.degree > 0 for item in thing])


def is_level_unswayed(house, thing):
    """Whether any value is a level unswayed Poly of the house's prime and wide."""
    return is_unswayed_thing(house, thing) and is_level(thing)


def free_lot(house):
    """A free lot of the house; TooMany(25) if in 3 unknowns the degrees of each one have a greater sum."""
    check_house(house)
    if house.wide == 1:
        return [poly_power(form_poly((1,), house.prime), house.size)]
    if house.wide == 2:
        return plane_lot(house)
    lot = space_lot(house, MOST_SUM)
    if lot is None:
        raise TooMany(MOST_SUM)
    return lot
