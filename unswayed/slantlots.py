"""Unswayed Slants told by the slopes of an alone lot."""

from unswayed.alone import check_alone
from unswayed.cycles import check_mild, picked
from unswayed.errors import BadNumber, Swayed, TooMany
from unswayed.houses import check_house
from unswayed.kinds import is_within
from unswayed.lotwork import told_by_lot
from unswayed.polys import constant, poly_scaled
from unswayed.slanthouses import check_house_slant, is_unswayed_slant
from unswayed.slants import check_slant, poly_slant, slant_product, slope_slant
from unswayed.slopes import divided, sign_of_sequence, slope_determinant

MOST_PART = 60
MOST_SPACE_PART = 23


def lot_slants(house, lot, grade):
    """For each pick the product of the slope_slants of the lot's Polys that it picks."""
    check_mild(house)
    check_alone(house, lot)
    if not is_within(grade, 0, house.wide):
        raise BadNumber("grade")
    return [slopes_product(lot, pick) for pick in picked(house.wide, grade)]


def slopes_product(lot, pick):
    """The product of the slope_slants of the lot's Polys that are picked."""
    total = poly_slant(constant(lot[0].prime, lot[0].wide, 1))
    for spot in pick:
        total = slant_product(total, slope_slant(poly_slant(lot[spot])))
    return total


def told_slant(house, lot, slant):
    """The Polys in the lot's unknowns, one for each of lot_slants, that tell an unswayed Slant."""
    check_house(house)
    check_slant(slant)
    check_mild(house)
    check_alone(house, lot)
    check_house_slant(house, slant)
    if not is_unswayed_slant(house, slant):
        raise Swayed("an unswayed Slant is wanted")
    most = MOST_SPACE_PART if house.wide == 3 else MOST_PART
    if max([part.degree for part in slant.parts]) > most:
        raise TooMany(MOST_PART)
    whole = slope_determinant(lot)
    ones = [constant(house.prime, house.wide, 1)]
    told = []
    for pick in picked(house.wide, slant.grade):
        # Times the other slopes only the one item of lot_slants is not 0: it becomes the slope determinant.
        others = tuple([spot for spot in range(house.wide) if spot not in pick])
        product = slant_product(slant, slopes_product(lot, others)).parts[0]
        factor = divided(poly_scaled(product, sign_of_sequence(pick + others)), whole)
        told.append(told_by_lot(lot, ones, factor)[0])
    return told
