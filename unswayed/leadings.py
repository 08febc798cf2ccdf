"""How tables and houses lead points and polynomials."""

from unswayed.errors import BadPoly, BadTable, TooMany
from unswayed.houses import check_house
from unswayed.kinds import point_of
from unswayed.packs import MOST_DEGREE
from unswayed.polys import Poly, check_poly, poly_product, poly_sum
from unswayed.putting import put_in
from unswayed.tables import check_square, check_table


def moved(table, point):
    """The point to which the table leads a point."""
    check_square(table)
    return point_moved(table, point_of(point, table.wide, table.prime))


def point_moved(table, spot):
    """The point to which the table leads a point that is a tuple of numbers from 0 to prime - 1."""
    return tuple([sum([x * y for x, y in zip(line, spot)]) % table.prime for line in table.lines])


def led(poly, table):
    """The Poly that has at each point the number of poly at the point to which the table leads it."""
    check_poly(poly)
    check_table(table)
    if table.prime != poly.prime or table.tall != poly.wide or table.wide != poly.wide:
        raise BadTable("a square table of the prime and with as many lines as the Poly has unknowns is wanted")
    return put_in(poly, [form_poly(line, poly.prime) for line in table.lines])


def form_poly(form, prime):
    """The Poly that has the numbers of form at the unknowns."""
    wide = len(form)
    terms = {}
    for spot, number in enumerate(form):
        terms[(0,) * spot + (1,) + (0,) * (wide - spot - 1)] = number
    return Poly(prime, wide, terms)


def orbit_of(house, point):
    """The ascending list of the points to which the tables lead a point."""
    check_house(house)
    start = point_of(point, house.wide, house.prime)
    return sorted({point_moved(table, start): True for table in house.tables})


def leading(house, one, other):
    """The first table of the house that leads point one to point other; None if there is none."""
    check_house(house)
    start = point_of(one, house.wide, house.prime)
    goal = point_of(other, house.wide, house.prime)
    for table in house.tables:
        if point_moved(table, start) == goal:
            return table
    return None


def check_house_poly(house, poly):
    """The errors of a House and a Poly of its prime and wide."""
    check_house(house)
    check_poly(poly)
    if poly.prime != house.prime or poly.wide != house.wide:
        raise BadPoly("a Poly of the house's prime and wide is wanted")


def led_lot(house, poly):
    """The list of the unlike Polys to which the tables lead a Poly, ascending by their terms."""
    check_house_poly(house, poly)
    found = {}
    for table in house.tables:
        image = led(poly, table)
        found[tuple(image.terms.items())] = image
    return [found[key] for key in sorted(found)]


def is_unswayed(house, poly):
    """Whether each table of the house leads the Poly to itself."""
    check_house_poly(house, poly)
    return all([led(poly, table) == poly for table in house.few])


def lot_sum(house, poly):
    """The sum of led_lot."""
    lot = led_lot(house, poly)
    total = lot[0]
    for image in lot[1:]:
        total = poly_sum(total, image)
    return total


def lot_product(house, poly):
    """The product of led_lot."""
    lot = led_lot(house, poly)
    if poly.degree * len(lot) > MOST_DEGREE:
        raise TooMany(MOST_DEGREE)
    total = lot[0]
    for image in lot[1:]:
        total = poly_product(total, image)
    return total
