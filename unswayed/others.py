"""Others for a free lot: with them each unswayed polynomial is told in one way."""

from unswayed.cycles import check_mild, plain_toll
from unswayed.errors import BadLot, BadOthers, Swayed
from unswayed.freelots import is_free_lot
from unswayed.houses import check_house
from unswayed.leadings import check_house_poly, is_unswayed
from unswayed.lotwork import are_found_others, found_others, told_by_lot
from unswayed.polys import check_poly


def check_lot(house, lot):
    """The errors of a mild House and a free lot of it."""
    check_mild(house)
    if not is_free_lot(house, lot):
        raise BadLot("a free lot of the house is wanted")


def others_of(house, lot):
    """Others for the lot, by degrees that do not fall."""
    check_lot(house, lot)
    return found_others(house, lot, plain_toll(house))


def are_others(house, lot, thing):
    """Whether any value is a list of others for the lot, in any sequence."""
    check_lot(house, lot)
    return are_found_others(house, lot, plain_toll(house), thing)


def told_over(house, lot, several, poly):
    """The list of Polys in the lot's unknowns, one for each of several, that tell poly."""
    check_house(house)
    check_poly(poly)
    if not are_others(house, lot, several):
        raise BadOthers("others for the lot are wanted")
    check_house_poly(house, poly)
    check_unswayed(house, poly)
    return told_by_lot(lot, several, poly)


def check_unswayed(house, poly):
    """Swayed unless the house leaves the Poly as it is."""
    if not is_unswayed(house, poly):
        raise Swayed("an unswayed Poly is wanted")
