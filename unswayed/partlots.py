"""Which few unswayed polynomials part or tell all points of the field."""

from unswayed.climbs import house_climb
from unswayed.counting import power_of
from unswayed.echelons import Echelon
from unswayed.errors import BadNumber, BadPoly, TooMany
from unswayed.houses import check_house
from unswayed.kinds import are_numbers, is_list
from unswayed.orbitcounts import orbits, orbits_many
from unswayed.packs import MOST_DEGREE
from unswayed.partings import climb_on, dot, is_unswayed_thing, row_values
from unswayed.polys import constant, poly_scaled, poly_sum, value_at


def part_degree(house):
    """The least degree up to which unswayed Polys part any two points that the house does not lead to one another."""
    points = first_points(house)
    climb = house_climb(house, 0)
    marks = [0] * len(points)
    while max(marks) + 1 < len(points):
        climb_on(climb)
        values = [row_values(climb, point) for point in points]
        for numbers in climb.unswayed():
            marks = marks_of([(mark, dot(numbers, row) % house.prime) for mark, row in zip(marks, values)])
    return climb.degree


def first_points(house):
    """The first points of the orbits."""
    return [orbit[0] for orbit in orbits(house)]


def marks_of(things):
    """The numbers from 0 on, one for each thing, that are the same exactly for the same things."""
    names = {}
    return [names.setdefault(thing, len(names)) for thing in things]


def telling_degree(house):
    """The least degree up to which unswayed Polys have whatever numbers are told for the orbits."""
    return tellers(house)[-1][0].degree


def tellers(house):
    """As many pairs as orbits of an unswayed Poly and its numbers at the orbits, independent, of the least degrees."""
    points = first_points(house)
    climb = house_climb(house, 0)
    echelon = Echelon(house.prime, len(points))
    pairs = chosen_here(climb, points, echelon)
    while len(pairs) < len(points):
        climb_to_tell(climb)
        pairs = pairs + chosen_here(climb, points, echelon)
    return pairs


def climb_to_tell(climb):
    """Goes on to the next degree; TooMany(300) or TooMany(120) if it is too high."""
    if climb.degree >= MOST_DEGREE:
        raise TooMany(MOST_DEGREE)
    climb_on(climb)


def chosen_here(climb, points, echelon):
    """The pairs of an unswayed Poly of the present degree and its numbers that the echelon does not yet tell."""
    values = [row_values(climb, point) for point in points]
    pairs = []
    for numbers in climb.unswayed():
        told = [dot(numbers, row) % climb.prime for row in values]
        if echelon.put(told):
            pairs.append((climb.poly(numbers), told))
    return pairs


def telling(house, numbers):
    """An unswayed Poly, of the least degree that does for all, that has these numbers at the orbits."""
    if not are_numbers(numbers, orbits_many(house, 1)):
        raise BadNumber("numbers")
    return told_by(house, tellers(house), [numbers])[0]


def told_by(house, pairs, goals):
    """The list of the sums of multiples of tellers that have the numbers of each goal at the orbits."""
    many = len(pairs)
    echelon = Echelon(house.prime, 2 * many)
    for at, (_, told) in enumerate(pairs):
        echelon.put(told + [1 if place == at else 0 for place in range(many)])
    # Behind the reduced first half stands which tellers have 1 at one orbit and 0 at all others.
    ones = [row[many:] for _, row in echelon.reduced()]
    polys = []
    for goal in goals:
        total = constant(house.prime, house.wide, 0)
        for at, (poly, _) in enumerate(pairs):
            total = poly_sum(total, poly_scaled(poly, dot(goal, [row[at] for row in ones])))
        polys.append(total)
    return polys


def fewest_parting(house):
    """As few unswayed Polys as can be that part any two points that the house does not lead to one another."""
    pairs = tellers(house)
    # The digits of its index, to the base of the prime, tell an orbit from all others.
    goals = []
    while power_of(house.prime, len(goals)) < len(pairs):
        step = power_of(house.prime, len(goals))
        goals.append([at // step % house.prime for at in range(len(pairs))])
    return told_by(house, pairs, goals)


def parts_all(house, polys):
    """Whether any two points at which all these unswayed Polys have the same numbers are led to one another."""
    check_house(house)
    if not is_list(polys) or not all([is_unswayed_thing(house, poly) for poly in polys]):
        raise BadPoly("a list of unswayed Polys of the house's prime and wide is wanted")
    points = first_points(house)
    marks = marks_of([tuple([value_at(poly, point) for poly in polys]) for point in points])
    return max(marks) + 1 == len(points)
