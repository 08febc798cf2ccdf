"""How many points, over all fields, have which inner houses as their keepers."""

from unswayed.between import signs_among, signs_between
from unswayed.counting import power_of
from unswayed.inner import check_inner, inner_classes, inner_houses
from unswayed.orbitcounts import bound_of, check_times
from unswayed.solving import rank
from unswayed.tables import Table


def kept_points(house, inner, times):
    """How many points, over the field with prime ** times numbers, just the tables of inner lead to themselves."""
    check_inner(house, inner)
    check_times(house, times)
    return signed_points(signs_between(house, inner), power_of(house.prime, times))


def signed_points(pairs, many):
    """The sum of the numbers of pairs times how many points their houses keep, over a field of many numbers."""
    return sum([number * power_of(many, freedom(one)) for number, one in pairs])


def freedom(house):
    """How many independent points all tables of the house lead to themselves."""
    lines = [line for table in house.few for line in bound_of(table)]
    return house.wide - rank(Table(house.prime, len(lines), house.wide, lines))


def placed_orbits(house, times):
    """How many orbits of such points have keepers in each list of inner_classes."""
    check_times(house, times)
    many = power_of(house.prime, times)
    houses = inner_houses(house)
    counts = []
    for lot in inner_classes(house):
        points = signed_points(signs_among(houses, lot[0]), many) * len(lot)
        counts.append(points * lot[0].size // house.size)
    return counts
