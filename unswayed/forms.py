"""Forms, and the unswayed polynomials that are made of them."""

from unswayed.errors import BadNumber
from unswayed.houses import check_house
from unswayed.kinds import is_within, point_of
from unswayed.leadings import form_poly
from unswayed.packs import pack_of, pack_product, pack_sum
from unswayed.polys import poly_of_pack


def form_lot(house, form):
    """The ascending list of the unlike forms to which the tables lead a form."""
    check_house(house)
    start = point_of(form, house.wide, house.prime)
    return sorted({form_led(start, table): True for table in house.tables})


def form_led(form, table):
    """The form to which the table leads a form that is a tuple of numbers from 0 to prime - 1."""
    return tuple([
        sum([number * line[place] for number, line in zip(form, table.lines)]) % table.prime
        for place in range(table.wide)])


def orbit_poly(house, form, degree):
    """The sum of the products of so many unlike members of form_lot, over all ways to choose them."""
    lot = form_lot(house, form)
    if not is_within(degree, 1, len(lot)):
        raise BadNumber("degree")
    sums = [{0: 1}] + [{} for _ in range(degree)]
    for member in lot:
        pack = pack_of(form_poly(member, house.prime).terms)
        # From above down: each member must stand in a product once at most.
        for many in range(degree, 0, -1):
            more = pack_product(sums[many - 1], pack, house.prime)
            sums[many] = pack_sum(sums[many], more, house.prime)
    return poly_of_pack(house.prime, house.wide, sums[degree])


def form_row(house, form, point):
    """The numbers of all orbit_polys of a form at a point, by their degrees."""
    lot = form_lot(house, form)
    place = point_of(point, house.wide, house.prime)
    row = [1]
    for member in lot:
        number = form_number(member, place, house.prime)
        row = [(x + number * y) % house.prime for x, y in zip(row + [0], [0] + row)]
    return tuple(row[1:])


def form_number(form, place, prime):
    """The number of a form at a point, modulo prime."""
    return sum([x * y for x, y in zip(form, place)]) % prime
