"""Mirrors: tables that lead each point along one way, by a number that one form tells."""

from unswayed.counting import undone
from unswayed.errors import BadNumber, BadPoint, BadPoly, BadTable
from unswayed.houses import House, check_house
from unswayed.kinds import is_number, is_within, point_of
from unswayed.leadings import form_poly
from unswayed.orbitcounts import bound_of
from unswayed.polys import MOST_UNKNOWNS, check_poly, constant, is_level, poly_power, poly_product
from unswayed.solving import determinant, inverse, rank
from unswayed.tables import Table, check_table, plain_lines, times


def is_mirror(thing):
    """Whether any value is a mirror."""
    if not isinstance(thing, Table) or thing.tall != thing.wide or not is_within(thing.tall, 1, MOST_UNKNOWNS):
        return False
    bound = Table(thing.prime, thing.tall, thing.wide, bound_of(thing))
    return rank(bound) == 1 and rank(thing) == thing.tall


def mirrors_of(house):
    """The list of the mirrors among the tables of the house, in their sequence."""
    check_house(house)
    return [table for table in house.tables if is_mirror(table)]


def check_mirror(table):
    """BadTable unless the value is a mirror."""
    check_table(table)
    if not is_mirror(table):
        raise BadTable("a mirror is wanted")


def monic(numbers, prime):
    """The multiple of the numbers in which the first one that is not 0 is 1."""
    first = [number for number in numbers if number][0]
    factor = undone(first, prime)
    return tuple([number * factor % prime for number in numbers])


def form_of(table):
    """The form of a mirror as a tuple of numbers."""
    return monic([line for line in bound_of(table) if any(line)][0], table.prime)


def mirror_form(table):
    """The form of a mirror: a level Poly of degree 1 whose first number is 1."""
    check_mirror(table)
    return form_poly(form_of(table), table.prime)


def mirror_way(table):
    """The way of a mirror: a point whose first coordinate that is not 0 is 1."""
    check_mirror(table)
    lines = bound_of(table)
    return monic([column for column in zip(*lines) if any(column)][0], table.prime)


def mirror_number(table):
    """The number of a mirror: it leads each point x to x plus number times form at x times way."""
    check_mirror(table)
    # Where form and way have their first 1, the table less plain has just the number.
    line = [line for line in bound_of(table) if any(line)][0]
    return [number for number in line if number][0]


def mirror_table(form, way, number):
    """The mirror with this form, this way and this number."""
    check_poly(form)
    if form.degree != 1 or not is_level(form):
        raise BadPoly("a level Poly of degree 1 is wanted")
    prime = form.prime
    steps = point_of(way, form.wide, prime)
    if not any(steps):
        raise BadPoint("a way that is not 0 is wanted")
    if not is_number(number) or number % prime == 0:
        raise BadNumber("number")
    terms = form.terms
    numbers = [terms.get(row, 0) for row in plain_lines(form.wide)]
    lines = [
        [value + number * step * factor for value, factor in zip(line, numbers)]
        for line, step in zip(plain_lines(form.wide), steps)]
    table = Table(prime, form.wide, form.wide, lines)
    if rank(table) < form.wide:
        raise BadTable("the table with this form, way and number has no inverse")
    return table


def walls_of(house):
    """The triples (form, turns, shears) for the forms of the mirrors of the house, ascending by the forms' terms."""
    found = {}
    for table in mirrors_of(house):
        found.setdefault(form_of(table), []).append(determinant(table))
    walls = {}
    for form, numbers in found.items():
        # Plain, which is no mirror, has the determinant 1, too.
        turns = len({number: True for number in numbers + [1]})
        poly = form_poly(form, house.prime)
        walls[tuple(poly.terms.items())] = (poly, turns, numbers.count(1) + 1)
    return [walls[key] for key in sorted(walls)]


def weight_of(prime, turns, shears):
    """The weight of a wall with so many turns and shears."""
    weight = turns - 1
    left = shears
    while left > 1:
        left = left // prime
        weight += prime - 1
    return weight


def wall_product(house):
    """The product of the forms of all walls, each to the power of its weight."""
    walls = walls_of(house)
    total = constant(house.prime, house.wide, 1)
    for form, turns, shears in walls:
        total = poly_product(total, poly_power(form, weight_of(house.prime, turns, shears)))
    return total


def mirror_house(house):
    """The House of all products of mirrors of the house."""
    mirrors = mirrors_of(house)
    return House(house.prime, house.wide, mirrors)


def is_mirrored(house):
    """Whether the house is made by its mirrors."""
    return mirror_house(house) == house


def mirror_classes(house):
    """The lists of the mirrors that tables of the house lead to one another, all ascending by lines."""
    mirrors = {table.lines: table for table in mirrors_of(house)}
    pairs = [(table, inverse(table)) for table in house.tables]
    classes = []
    seen = {}
    for lines in sorted(mirrors):
        if lines not in seen:
            found = sorted({times(times(one, mirrors[lines]), back).lines: True for one, back in pairs})
            classes.append([mirrors[other] for other in found])
            for other in found:
                seen[other] = True
    return classes
