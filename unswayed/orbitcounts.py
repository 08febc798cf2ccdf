"""How many orbits of which sizes a house makes, over all fields that contain the prime field."""

from unswayed.counting import all_points, power_of
from unswayed.errors import BadNumber, TooMany
from unswayed.houses import check_house
from unswayed.kinds import is_within
from unswayed.leadings import orbit_of
from unswayed.solving import rank, tidy
from unswayed.tables import Table, plain_lines

MOST_TIMES = 1000
MOST_POINTS = 200


def fixing(house):
    """How many tables leave just prime ** i points as they are, for each i from 0 to wide."""
    check_house(house)
    counts = [0] * (house.wide + 1)
    for table in house.tables:
        lines = bound_of(table)
        counts[house.wide - rank(Table(house.prime, house.wide, house.wide, lines))] += 1
    return tuple(counts)


def bound_of(table):
    """The lines of a table less plain: they lead just the points that the table leaves as they are to 0."""
    return tuple([
        tuple([(x - y) % table.prime for x, y in zip(line, other)])
        for line, other in zip(table.lines, plain_lines(table.tall))])


def check_times(house, times):
    """The errors of a House and of how many times as wide its points are."""
    check_house(house)
    if not is_within(times, 1, MOST_TIMES):
        raise BadNumber("times")


def orbits_many(house, times):
    """How many orbits the points have whose coordinates are of the field with prime ** times numbers."""
    check_times(house, times)
    many = power_of(house.prime, times)
    return sum([count * power_of(many, at) for at, count in enumerate(fixing(house))]) // house.size


def orbit_sizes(house, times):
    """The dict from each number of points that such an orbit can have to how many orbits have it."""
    check_times(house, times)
    points = {}
    for flat, many in flat_points(house, power_of(house.prime, times)):
        size = house.size // keeper_count(house, flat)
        points[size] = points.get(size, 0) + many
    return {size: points[size] // size for size in sorted(points) if points[size]}


def flat_points(house, many):
    """The pairs of each flat, and how many points it has that no lesser flat has, over a field of many numbers.

    A flat is the lot of the points that some tables leave as they are, told by the
    reduced form of the lines that lead just these points to 0.
    """
    pairs = []
    # Lesser flats first: they have more lines.
    for flat in sorted(flats_of(house), key=len, reverse=True):
        inner = [count for other, count in pairs if flat_within(house, other, flat) == other]
        pairs.append((flat, power_of(many, house.wide - len(flat)) - sum(inner)))
    return pairs


def flats_of(house):
    """The list of all flats."""
    bounds = [bound_of(table) for table in house.tables]
    found = [()]
    seen = {(): True}
    at = 0
    while at < len(found):
        for bound in bounds:
            flat = flat_within(house, found[at], bound)
            if flat not in seen:
                seen[flat] = True
                found.append(flat)
        at += 1
    return found


def flat_within(house, one, other):
    """The flat of the points that the lines of both lead to 0."""
    lines = one + other
    reduced = tidy(Table(house.prime, len(lines), house.wide, lines)).lines
    return tuple([line for line in reduced if any(line)])


def keeper_count(house, flat):
    """How many tables leave each point of a flat as it is."""
    return len([table for table in house.tables if flat_within(house, flat, bound_of(table)) == flat])


def orbits(house):
    """The list of the orbits of all points of the field, by their first points."""
    check_house(house)
    check_points(house)
    found = []
    seen = {}
    for point in all_points(house.prime, house.wide):
        if point not in seen:
            orbit = tuple(orbit_of(house, point))
            found.append(orbit)
            for item in orbit:
                seen[item] = True
    return found


def check_points(house):
    """TooMany(200) if the field has more than 200 points."""
    if power_of(house.prime, house.wide) > MOST_POINTS:
        raise TooMany(MOST_POINTS)
