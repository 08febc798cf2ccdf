"""Inner houses: houses whose tables are all among those of another one."""

from unswayed.errors import BadHouse, BadInner, TooMany
from unswayed.houses import House, check_house, house_led
from unswayed.kinds import point_of
from unswayed.leadings import check_house_poly, led, point_moved
from unswayed.tables import Table, lines_product

MOST_INNER = 24


def check_houses(one, other):
    """The errors of two Houses."""
    check_house(one)
    check_house(other)
    if one.prime != other.prime:
        raise BadHouse("prime")
    if one.wide != other.wide:
        raise BadHouse("wide")


def lines_of(house):
    """The tuple of the lines of all tables of a house."""
    return tuple([table.lines for table in house.tables])


def is_inner(house, other):
    """Whether all tables of other are among those of house."""
    check_houses(house, other)
    return all([table in house.tables for table in other.few])


def common_house(one, other):
    """The House of the tables that both have."""
    check_houses(one, other)
    return House(one.prime, one.wide, [table for table in one.tables if table in other.tables])


def joined_house(one, other):
    """The House of the tables of both and all their products."""
    check_houses(one, other)
    return House(one.prime, one.wide, one.few + other.few)


def keeper(house, poly):
    """The House of all tables that lead the Poly to itself."""
    check_house_poly(house, poly)
    return House(house.prime, house.wide, [table for table in house.tables if led(poly, table) == poly])


def point_keeper(house, point):
    """The House of all tables that lead the point to itself."""
    check_house(house)
    start = point_of(point, house.wide, house.prime)
    return House(house.prime, house.wide, [table for table in house.tables if point_moved(table, start) == start])


def inner_houses(house):
    """The list of all inner houses, those of fewer tables first, then by the lines of their tables."""
    check_house(house)
    if house.size > MOST_INNER:
        raise TooMany(MOST_INNER)
    # Each inner house is joined of some that one table alone makes.
    single = {}
    for table in house.tables:
        made = House(house.prime, house.wide, [table])
        single[lines_of(made)] = made
    found = {key: single[key] for key in single}
    queue = list(found.values())
    at = 0
    while at < len(queue):
        for one in list(single.values()):
            if not is_inner(queue[at], one):
                made = joined_house(queue[at], one)
                if lines_of(made) not in found:
                    found[lines_of(made)] = made
                    queue.append(made)
        at += 1
    keys = sorted([(len(key), key) for key in found])
    return [found[key] for _, key in keys]


def inner_classes(house):
    """The inner houses in lists of those that tables of the house lead to one another."""
    left = {lines_of(one): one for one in inner_houses(house)}
    classes = []
    while left:
        first = list(left.values())[0]
        led_there = {lines_of(house_led(first, table)): True for table in house.tables}
        classes.append([left[key] for key in left if key in led_there])
        left = {key: left[key] for key in left if key not in led_there}
    return classes


def check_inner(house, inner):
    """The errors of a House and an inner house of it."""
    check_house(house)
    check_house(inner)
    if house.prime != inner.prime or house.wide != inner.wide or not is_inner(house, inner):
        raise BadInner("an inner house of the house is wanted")


def index_of(house, inner):
    """How many times as many tables the house has as the inner one."""
    check_inner(house, inner)
    return house.size // inner.size


def share_tables(house, inner):
    """The ascending list of the first tables of all shares."""
    check_inner(house, inner)
    found = []
    seen = {}
    for table in house.tables:
        if table.lines not in seen:
            found.append(Table(house.prime, house.wide, house.wide, table.lines))
            for one in inner.tables:
                seen[lines_product(one.lines, table.lines, house.wide, house.prime)] = True
    return found
