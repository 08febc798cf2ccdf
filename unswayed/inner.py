"""Inner houses: houses whose tables are all among those of another one."""

from unswayed.errors import BadHouse, BadInner, TooMany
from unswayed.houses import House, check_house
from unswayed.kinds import point_of
from unswayed.leadings import check_house_poly, led, point_moved
from unswayed.spots import made_spots, plain_spot, product_spots
from unswayed.tables import Table, lines_product

MOST_INNER = 24


def check_houses(one, other):
    """The errors of two Houses."""
    check_house(one)
    check_house(other)
    if one.prime != other.prime:
        raise BadHouse("prime")
    if one.wide != other.wide:
        raise BadHouse("wide")


def lines_of(house):
    """The tuple of the lines of all tables of a house."""
    return tuple([table.lines for table in house.tables])


def is_inner(house, other):
    """Whether all tables of other are among those of house."""
    check_houses(house, other)
    return all([table in house.tables for table in other.few])


def common_house(one, other):
    """The House of the tables that both have."""
    check_houses(one, other)
    return House(one.prime, one.wide, [table for table in one.tables if table in other.tables])


def joined_house(one, other):
    """The House of the tables of both and all their products."""
    check_houses(one, other)
    return House(one.prime, one.wide, one.few + other.few)


def keeper(house, poly):
    """The House of all tables that lead the Poly to itself."""
    check_house_poly(house, poly)
    return House(house.prime, house.wide, [table for table in house.tables if led(poly, table) == poly])


def point_keeper(house, point):
    """The House of all tables that lead the point to itself."""
    check_house(house)
    start = point_of(point, house.wide, house.prime)
    return House(house.prime, house.wide, [table for table in house.tables if point_moved(table, start) == start])


def inner_houses(house):
    """The list of all inner houses, those of fewer tables first, then by the lines of their tables."""
    check_few_tables(house)
    return [house_at(house, spots) for spots in inner_spots(house, product_spots(house))]


def check_few_tables(house):
    """TooMany(24) if a House has more tables than all inner houses are looked at for."""
    check_house(house)
    if house.size > MOST_INNER:
        raise TooMany(MOST_INNER)


def house_at(house, spots):
    """The House of the tables at these spots."""
    return House(house.prime, house.wide, [house.tables[spot] for spot in spots])


def inner_spots(house, products):
    """The tuples of the spots of the tables of all inner houses, in the sequence of inner_houses."""
    start = plain_spot(house)
    # Each inner house is joined of some that one table alone makes.
    singles = {made_spots(products, start, [spot]): spot for spot in range(house.size)}
    few = {spots: [spot] for spots, spot in singles.items()}
    queue = list(few)
    at = 0
    while at < len(queue):
        for spot in list(singles.values()):
            if spot not in queue[at]:
                joined = few[queue[at]] + [spot]
                made = made_spots(products, start, joined)
                if made not in few:
                    few[made] = joined
                    queue.append(made)
        at += 1
    # Tables ascend by their lines, so that lots of them ascend as the tuples of their spots do.
    return [spots for _, spots in sorted([(len(spots), spots) for spots in queue])]


def inner_classes(house):
    """The inner houses in lists of those that tables of the house lead to one another."""
    check_few_tables(house)
    products = product_spots(house)
    start = plain_spot(house)
    pairs = [(spot, row.index(start)) for spot, row in enumerate(products)]
    left = inner_spots(house, products)
    classes = []
    while left:
        led_there = {
            tuple(sorted([products[products[spot][inner]][back] for inner in left[0]])): True for spot, back in pairs}
        classes.append([house_at(house, spots) for spots in left if spots in led_there])
        left = [spots for spots in left if spots not in led_there]
    return classes


def check_inner(house, inner):
    """The errors of a House and an inner house of it."""
    check_house(house)
    check_house(inner)
    if house.prime != inner.prime or house.wide != inner.wide or not is_inner(house, inner):
        raise BadInner("an inner house of the house is wanted")


def index_of(house, inner):
    """How many times as many tables the house has as the inner one."""
    check_inner(house, inner)
    return house.size // inner.size


def share_tables(house, inner):
    """The ascending list of the first tables of all shares."""
    check_inner(house, inner)
    found = []
    seen = {}
    for table in house.tables:
        if table.lines not in seen:
            found.append(Table(house.prime, house.wide, house.wide, table.lines))
            for one in inner.tables:
                seen[lines_product(one.lines, table.lines, house.wide, house.prime)] = True
    return found
