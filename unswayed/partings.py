"""Points that unswayed polynomials part."""

from unswayed.climbs import house_climb
from unswayed.counting import all_points
from unswayed.errors import TooMany
from unswayed.forms import form_number, form_row, orbit_poly
from unswayed.houses import check_house
from unswayed.kinds import point_of
from unswayed.leadings import is_unswayed, leading, point_moved
from unswayed.packs import MOST_ROWS, row_count
from unswayed.polys import Poly, power_row, value_at


def parting(house, one, other):
    """An unswayed Poly with unlike numbers at both points; None if the house leads one to other."""
    if leading(house, one, other) is not None:
        return None
    start = point_of(one, house.wide, house.prime)
    goal = point_of(other, house.wide, house.prime)
    form = parting_form(house, start, goal)
    pairs = list(zip(form_row(house, form, start), form_row(house, form, goal)))
    degree = 1
    while pairs[degree - 1][0] == pairs[degree - 1][1]:
        degree += 1
    return orbit_poly(house, form, degree)


def parting_form(house, one, other):
    """A form whose members do not have the same numbers, each so often, at both points.

    There is one: the numbers of all forms together tell how often each point comes up.
    A multiple of a form tells no more than the form, so those beginning with 1 are enough.
    """
    ones = [point_moved(table, one) for table in house.tables]
    others = [point_moved(table, other) for table in house.tables]
    for spot in reversed(range(house.wide)):
        for tail in all_points(house.prime, house.wide - spot - 1):
            form = (0,) * spot + (1,) + tail
            if form_numbers(form, ones, house.prime) != form_numbers(form, others, house.prime):
                return form
    return None


def form_numbers(form, points, prime):
    """The ascending list of the numbers of a form at the points."""
    return sorted([form_number(form, place, prime) for place in points])


def is_parting(house, one, other, thing):
    """Whether any value is an unswayed Poly of the house with unlike numbers at both points."""
    check_house(house)
    start = point_of(one, house.wide, house.prime)
    goal = point_of(other, house.wide, house.prime)
    if not is_unswayed_thing(house, thing):
        return False
    return value_at(thing, start) != value_at(thing, goal)


def is_unswayed_thing(house, thing):
    """Whether any value is an unswayed Poly of the house's prime and wide."""
    if not isinstance(thing, Poly) or thing.prime != house.prime or thing.wide != house.wide:
        return False
    return is_unswayed(house, thing)


def parting_degree(house, one, other):
    """The least degree of an unswayed Poly that parts the points; None if the house leads one to other."""
    if leading(house, one, other) is not None:
        return None
    start = point_of(one, house.wide, house.prime)
    goal = point_of(other, house.wide, house.prime)
    climb = house_climb(house, 0)
    while climb.degree < house.size:
        climb_on(climb)
        gaps = [x - y for x, y in zip(row_values(climb, start), row_values(climb, goal))]
        if any([dot(numbers, gaps) % house.prime for numbers in climb.unswayed()]):
            return climb.degree
    raise TooMany(MOST_ROWS)


def climb_on(climb):
    """Goes on to the next degree; TooMany(300) if there are more than 300 rows of it."""
    if row_count(climb.wide, climb.degree + 1) > MOST_ROWS:
        raise TooMany(MOST_ROWS)
    climb.up()


def row_values(climb, place):
    """The numbers of the rows of the present degree at a point."""
    powers = [power_row(number, climb.degree, climb.prime) for number in place]
    values = []
    for row in climb.rows:
        number = 1
        for exponent, power in zip(row, powers):
            number = number * power[exponent] % climb.prime
        values.append(number)
    return values


def dot(numbers, values):
    """The sum of the products of two lists of numbers."""
    return sum([x * y for x, y in zip(numbers, values)])
