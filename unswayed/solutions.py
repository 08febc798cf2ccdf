"""Points of the field at which polynomials have given numbers."""

from unswayed.counting import all_points, power_of
from unswayed.errors import BadNumber, BadPoint, BadPoly, TooMany
from unswayed.kinds import are_numbers, check_prime, is_list, is_within
from unswayed.makers import check_makers
from unswayed.polys import MOST_UNKNOWNS, Poly, power_row

MOST_FIELD_POINTS = 5000


def check_few(prime, wide):
    """TooMany(5000) if the field has more than 5000 points of wide coordinates."""
    if power_of(prime, wide) > MOST_FIELD_POINTS:
        raise TooMany(MOST_FIELD_POINTS)


def points_with(poly, points, goal):
    """Those of the points, tuples of numbers from 0 to prime - 1, at which poly has the number goal."""
    prime = poly.prime
    powers = [power_row(number, poly.degree, prime) for number in range(prime)]
    pairs = list(poly.terms.items())
    found = []
    for point in points:
        total = 0
        for row, number in pairs:
            part = number
            for place, exponent in zip(point, row):
                part = part * powers[place][exponent]
            total += part
        if total % prime == goal:
            found.append(point)
    return found


def solutions_of(prime, wide, polys):
    """The ascending list of all points of the field at which each of the Polys has the number 0."""
    check_prime(prime)
    if not is_within(wide, 1, MOST_UNKNOWNS):
        raise BadNumber("wide")
    if not is_list(polys) or not all([isinstance(poly, Poly) for poly in polys]):
        raise BadPoly("a list of Polys is wanted")
    if not all([poly.prime == prime and poly.wide == wide for poly in polys]):
        raise BadPoly("Polys of this prime in wide unknowns are wanted")
    check_few(prime, wide)
    points = all_points(prime, wide)
    for poly in polys:
        points = points_with(poly, points, 0)
    return points


def source_of(house, lot, makers, numbers):
    """The least point of the field at which makers have these numbers; None if there is none."""
    check_makers(house, lot, makers)
    if not are_numbers(numbers, len(makers)):
        raise BadPoint("a list of as many whole numbers as makers is wanted")
    check_few(house.prime, house.wide)
    points = all_points(house.prime, house.wide)
    for maker, number in zip(makers, numbers):
        points = points_with(maker, points, number % house.prime)
    return points[0] if points else None
