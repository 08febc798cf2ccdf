"""Far points at which all unswayed polynomials have numbers of the field."""

from math import lcm

from unswayed.climbs import first_spot, house_climb, row_below
from unswayed.counting import all_points
from unswayed.errors import BadNumber, BadTable, TooMany
from unswayed.farwork import far_many, far_plain, far_times
from unswayed.houses import check_house, has_table, order_of
from unswayed.orbitcounts import check_points
from unswayed.packs import MOST_ROWS
from unswayed.partings import climb_on, dot
from unswayed.solving import kernel, tidy
from unswayed.tables import MOST_LINES, Table, across
from unswayed.widefields import WideField, check_far_point, far_point_moved, frobenius


def exponent(house):
    """The least number of factors, from 1 on, that give plain for each table of the house."""
    check_house(house)
    least = 1
    for table in house.tables:
        least = lcm(least, order_of(table))
    return least


def house_field(house):
    """The wide field over which the twisted points of the house are."""
    degree = exponent(house)
    if house.wide * degree > MOST_LINES:
        raise TooMany(MOST_LINES)
    return WideField(house.prime, degree)


def twisted(house, table):
    """The tidy list of far points of which those are sums that the table leads to their frobenius."""
    if not has_table(house, table):
        raise BadTable("a Table of the house is wanted")
    field = house_field(house)
    return twisted_points(field, table, letter_powers(field))


def letter_powers(field):
    """The list of the powers of t with prime * k as times, for k from 0 to degree - 1."""
    powers = [far_plain(1, field.degree)]
    if field.degree > 1:
        step = far_many((0, 1) + (0,) * (field.degree - 2), field.prime, field.modulus, field.prime)
        for _ in range(field.degree - 1):
            powers.append(far_times(powers[-1], step, field.modulus, field.prime))
    return powers


def twisted_points(field, table, powers):
    """The far points that twisted tells, powers being the letter_powers of the field."""
    # The frobenius of a sum is the sum of both, so it is told by what it makes of the powers of t.
    many = table.wide * field.degree
    columns = []
    for spot in range(table.wide):
        for at in range(field.degree):
            column = [0] * many
            column[spot * field.degree:(spot + 1) * field.degree] = powers[at]
            for place, line in enumerate(table.lines):
                column[place * field.degree + at] -= line[spot]
            columns.append(column)
    gaps = across(Table(field.prime, many, many, columns))
    rows = tidy(across(kernel(gaps))).lines
    return [far_point_of_row(row, field.degree) for row in rows]


def far_point_of_row(row, degree):
    """The far point that is written as one row of numbers."""
    return tuple([row[start:start + degree] for start in range(0, len(row), degree)])


def is_stable(house, point):
    """Whether some table of the house leads the far point to its frobenius."""
    check_house(house)
    check_far_point(point, house.wide, house.prime, exponent(house))
    field = house_field(house)
    return far_leads(house, point, frobenius(field, point))


def far_leads(house, one, other):
    """Whether some table of the house leads one far point to another one."""
    return tuple(other) in [far_point_moved(table, one) for table in house.tables]


def straying(house, point):
    """An unswayed Poly whose number at the far point is none of the field; None if the point is stable."""
    check_house(house)
    check_far_point(point, house.wide, house.prime, exponent(house))
    field = house_field(house)
    # A number is one of the field exactly if it is its own frobenius.
    return far_parted(house, field, point, frobenius(field, point))


def far_parting(house, field, one, other):
    """An unswayed Poly with unlike far numbers at both far points; None if the house leads one to other."""
    check_house(house)
    if not isinstance(field, WideField) or field.prime != house.prime:
        raise BadNumber("field")
    check_far_point(one, house.wide, field.prime, field.degree)
    check_far_point(other, house.wide, field.prime, field.degree)
    return far_parted(house, field, one, other)


def far_parted(house, field, one, other):
    """What far_parting tells, for what is known to be right."""
    if far_leads(house, one, other):
        return None
    climb = house_climb(house, 0)
    start = {climb.rows[0]: far_plain(1, field.degree)}
    goal = start
    while climb.degree < house.size:
        climb_on(climb)
        start = far_rows_above(climb.rows, start, field, one)
        goal = far_rows_above(climb.rows, goal, field, other)
        gaps = [[x - y for x, y in zip(start[row], goal[row])] for row in climb.rows]
        columns = list(zip(*gaps))
        for numbers in climb.unswayed():
            if any([dot(numbers, column) % field.prime for column in columns]):
                return climb.poly(numbers)
    raise TooMany(MOST_ROWS)


def far_rows_above(rows, below, field, point):
    """The dict from each row to its far number at the point; below is the one of one degree less."""
    return {
        row: far_times(below[row_below(row)], point[first_spot(row)], field.modulus, field.prime)
        for row in rows}


def stable_orbits(house):
    """The list of the orbits of the stable far points, by their first points."""
    field = house_field(house)
    check_points(house)
    powers = letter_powers(field)
    points = {}
    for table in house.tables:
        for point in sums_of(twisted_points(field, table, powers), field.prime):
            points[point] = True
    found = []
    seen = {}
    for point in sorted(points):
        if point not in seen:
            orbit = sorted({far_point_moved(table, point): True for table in house.tables})
            found.append(tuple(orbit))
            for item in orbit:
                seen[item] = True
    return found


def sums_of(points, prime):
    """All sums of multiples of some far points."""
    # Written across: for each spot the columns of the far numbers that the points have there.
    spots = [list(zip(*numbers)) for numbers in zip(*points)]
    return [
        tuple([tuple([dot(factors, column) % prime for column in columns]) for columns in spots])
        for factors in all_points(prime, len(points))]
