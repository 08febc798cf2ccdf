"""What is tolled by a toll, counted in all degrees and told over free lots."""

from unswayed.cycles import check_mild, far_count, row_for
from unswayed.errors import BadOthers, Swayed
from unswayed.houses import check_house
from unswayed.leadings import check_house_poly
from unswayed.lotwork import are_found_others, found_others, told_by_lot
from unswayed.others import check_lot
from unswayed.polys import check_poly
from unswayed.rowsfar import check_far_degree
from unswayed.tolls import check_toll, is_tolled_poly


def toll_row(house, toll):
    """The pair of the period and the tops that tells how many Polys are tolled by the toll."""
    check_mild(house)
    check_toll(house, toll)
    return row_for(house, toll, 0)


def toll_far(house, toll, degree):
    """How many independent level Polys of this degree, however high it is, are tolled by the toll."""
    row = toll_row(house, toll)
    check_far_degree(degree)
    return far_count(house.wide, row, degree)


def toll_others(house, lot, toll):
    """Toll others for the lot and the toll, by degrees that do not fall."""
    check_lot(house, lot)
    check_toll(house, toll)
    return found_others(house, lot, toll)


def are_toll_others(house, lot, toll, thing):
    """Whether any value is a list of toll others for the lot and the toll, in any sequence."""
    check_lot(house, lot)
    check_toll(house, toll)
    return are_found_others(house, lot, toll, thing)


def told_toll(house, lot, toll, several, poly):
    """The list of Polys in the lot's unknowns, one for each of several, that tell a Poly tolled by the toll."""
    check_house(house)
    check_poly(poly)
    if not are_toll_others(house, lot, toll, several):
        raise BadOthers("toll others for the lot and the toll are wanted")
    check_house_poly(house, poly)
    if not is_tolled_poly(house, toll, poly):
        raise Swayed("a Poly that is tolled by the toll is wanted")
    return told_by_lot(lot, several, poly)
