"""Tolls: the numbers by which the tables of a house may change a polynomial."""

from unswayed.climbs import toll_climb
from unswayed.counting import power_of, undone
from unswayed.cycles import check_mild
from unswayed.degrees import check_degree
from unswayed.errors import BadToll
from unswayed.houses import House, check_house, order_of
from unswayed.kinds import is_within
from unswayed.leadings import check_house_poly, led
from unswayed.polys import check_poly, poly_scaled, poly_sum
from unswayed.solving import determinant
from unswayed.tables import lines_product, plain_lines


def is_toll(house, thing):
    """Whether any value is a toll of the house."""
    check_house(house)
    if not isinstance(thing, tuple) or len(thing) != house.size:
        return False
    if not all([is_within(number, 1, house.prime - 1) for number in thing]):
        return False
    numbers = [thing[house.tables.index(table)] for table in house.few]
    return thing == toll_from(house, numbers)


def check_toll(house, toll):
    """BadToll unless the value is a toll of the house."""
    if not is_toll(house, toll):
        raise BadToll("a toll of the house is wanted")


def toll_from(house, numbers):
    """The toll with these numbers at the few tables that make the house; None if there is none."""
    values = values_from(house, numbers)
    return None if values is None else tuple([values[table.lines] for table in house.tables])


def values_from(house, numbers):
    """The dict from lines to numbers for what the first few tables make; None if the numbers do not fit."""
    start = plain_lines(house.wide)
    values = {start: 1}
    found = [start]
    at = 0
    while at < len(found):
        for table, number in zip(house.few, numbers):
            made = lines_product(found[at], table.lines, house.wide, house.prime)
            value = values[found[at]] * number % house.prime
            if made not in values:
                values[made] = value
                found.append(made)
            elif values[made] != value:
                return None
        at += 1
    return values


def tolls_of(house):
    """The ascending list of all tolls of the house."""
    check_house(house)
    lots = [()]
    # Table by table: what does not fit for the first ones need not be looked at any more.
    for table in house.few:
        order = order_of(table)
        numbers = [number for number in range(1, house.prime) if power_of(number, order) % house.prime == 1]
        lots = [lot + (number,) for lot in lots for number in numbers]
        lots = [lot for lot in lots if values_from(house, lot) is not None]
    return sorted([toll_from(house, lot) for lot in lots])


def determinant_toll(house):
    """The toll of the determinants of the tables."""
    check_house(house)
    return tuple([determinant(table) for table in house.tables])


def toll_product(house, one, other):
    """The toll whose numbers are the products of those of two tolls."""
    check_house(house)
    check_toll(house, one)
    check_toll(house, other)
    return tuple([x * y % house.prime for x, y in zip(one, other)])


def toll_back(house, toll):
    """The toll whose product with toll has the numbers 1 alone."""
    check_house(house)
    check_toll(house, toll)
    return tuple([undone(number, house.prime) for number in toll])


def untolled(house):
    """The House of all tables at which each toll has the number 1."""
    tolls = tolls_of(house)
    tables = [table for at, table in enumerate(house.tables) if all([toll[at] == 1 for toll in tolls])]
    return House(house.prime, house.wide, tables)


def is_tolled(house, toll, poly):
    """Whether each table leads the Poly to itself times the toll's number."""
    check_house(house)
    check_poly(poly)
    check_toll(house, toll)
    check_house_poly(house, poly)
    return is_tolled_poly(house, toll, poly)


def is_tolled_poly(house, toll, poly):
    """Whether a Poly of the house's prime and wide is tolled by a toll of the house."""
    return all([
        led(poly, table) == poly_scaled(poly, toll[house.tables.index(table)]) for table in house.few])


def toll_of(house, poly):
    """The toll by which the Poly is tolled; None if there is none, and for a Poly without terms."""
    check_house_poly(house, poly)
    if poly.degree < 0:
        return None
    row, first = list(poly.terms.items())[0]
    numbers = []
    for table in house.few:
        image = led(poly, table)
        number = image.terms.get(row, 0) * undone(first, house.prime) % house.prime
        if image != poly_scaled(poly, number):
            return None
        numbers.append(number)
    return toll_from(house, numbers)


def tolled_of(house, toll, degree):
    """The tidy list of the level Polys of this degree that are tolled by the toll."""
    check_house(house)
    check_toll(house, toll)
    check_degree(house, degree)
    climb = toll_climb(house, toll)
    for _ in range(degree):
        climb.up()
    return [climb.poly(numbers) for numbers in climb.unswayed()]


def toll_mean(house, toll, poly):
    """The mean of what the tables lead the Poly to, each divided by the toll's number: it is tolled by the toll."""
    check_house(house)
    check_poly(poly)
    check_mild(house)
    check_toll(house, toll)
    check_house_poly(house, poly)
    total = poly_scaled(poly, 0)
    for table, number in zip(house.tables, toll):
        total = poly_sum(total, poly_scaled(led(poly, table), undone(number, house.prime)))
    return poly_scaled(total, undone(house.size, house.prime))
