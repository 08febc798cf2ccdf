"""Alone lots: as many unswayed polynomials as unknowns that alone make all."""

from unswayed.errors import BadAlone, BadNumber, TooMany
from unswayed.freelots import are_lot_things
from unswayed.houses import check_house
from unswayed.kinds import is_within
from unswayed.leadings import check_house_poly
from unswayed.lotwork import told_by_lot
from unswayed.needs import Needs
from unswayed.others import check_unswayed
from unswayed.packs import MOST_DEGREE, MOST_ROWS, check_rows, row_count
from unswayed.polys import check_poly, constant
from unswayed.slopes import slope_determinant


def is_alone_lot(house, thing):
    """Whether any value is an alone lot of the house."""
    check_house(house)
    if not are_lot_things(house, thing) or degree_product(thing) != house.size:
        return False
    return slope_determinant(thing).degree >= 0


def degree_product(polys):
    """The product of the degrees of Polys."""
    total = 1
    for poly in polys:
        total = total * poly.degree
    return total


def alone_lot(house):
    """An alone lot of the house, by degrees that do not fall; None if there is none."""
    needs = first_needs(house)
    lot = needs.polys()
    if len(lot) < house.wide:
        raise TooMany(MOST_ROWS)
    return lot if is_alone_lot(house, lot) else None


def first_needs(house):
    """The Needs up to the degree in which as many Polys as unknowns are needed, or up to the last one looked at."""
    check_house(house)
    needs = Needs(house)
    while len(needs.makers) < house.wide and row_count(house.wide, needs.degree + 1) <= MOST_ROWS:
        needs.up()
    return needs


def alone_degrees(house):
    """The degrees of an alone lot, not falling; None if there is none."""
    lot = alone_lot(house)
    return None if lot is None else [poly.degree for poly in lot]


def more_degree(house):
    """The least degree up to which more Polys than unknowns are needed; None if there is an alone lot."""
    needs = first_needs(house)
    lot = needs.polys()
    if len(lot) == house.wide and is_alone_lot(house, lot):
        return None
    while len(needs.makers) <= house.wide:
        if row_count(house.wide, needs.degree + 1) > MOST_ROWS:
            raise TooMany(MOST_ROWS)
        needs.up()
    return needs.degree


def needed_of(house, degree):
    """How many Polys are needed in each degree from 1 to degree."""
    check_house(house)
    if not is_within(degree, 1, MOST_DEGREE):
        raise BadNumber("degree")
    check_rows(house.wide, degree)
    needs = Needs(house)
    while needs.degree < degree and not is_alone_lot(house, needs.polys()):
        needs.up()
    # Once an alone lot is found nothing else is needed.
    found = [maker.degree for maker in needs.polys()]
    return tuple([found.count(at) for at in range(1, degree + 1)])


def told_alone(house, lot, poly):
    """The Poly in the lot's unknowns that tells poly."""
    check_house(house)
    check_poly(poly)
    check_alone(house, lot)
    check_house_poly(house, poly)
    check_unswayed(house, poly)
    return told_by_lot(lot, [constant(house.prime, house.wide, 1)], poly)[0]


def check_alone(house, lot):
    """BadAlone unless lot is an alone lot of the house."""
    if not is_alone_lot(house, lot):
        raise BadAlone("an alone lot of the house is wanted")
