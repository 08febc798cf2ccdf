"""Houses: finite lots of invertible tables, closed under products."""

from unswayed.errors import BadHouse, BadTable, TooMany
from unswayed.kinds import check_prime, is_list, is_within
from unswayed.solving import inverse, rank
from unswayed.tables import Table, check_square, check_table, lines_product, plain_lines, times

MOST_TABLES = 48
MOST_WIDE = 3
MOST_ORDER = 10000


class House:
    """All products of any number of the given tables.

    few holds some tables of the house whose products are all: what these few leave
    as it is, all do. It hangs on the tables of the house alone, so that equal houses
    give equal results.
    """

    def __init__(self, prime, wide, tables):
        check_prime(prime)
        if not is_within(wide, 1, MOST_WIDE):
            raise BadHouse("wide")
        if not is_list(tables) or not all([is_house_table(item, prime, wide) for item in tables]):
            raise BadHouse("tables")
        # Tables that others make already would only take time.
        needed = few_of([table.lines for table in tables], wide, prime)
        lots = sorted(all_products(needed, wide, prime))
        self.prime = prime
        self.wide = wide
        self.tables = tuple([Table(prime, wide, wide, lines) for lines in lots])
        self.size = len(lots)
        self.few = tuple([Table(prime, wide, wide, lines) for lines in few_of(lots, wide, prime)])

    def __eq__(self, other):
        return (isinstance(other, House) and self.prime == other.prime and self.wide == other.wide
                and self.tables == other.tables)


def is_house_table(thing, prime, wide):
    """Whether a value is a Table of this prime, square with wide lines, with an inverse."""
    return (isinstance(thing, Table) and thing.prime == prime and thing.tall == wide and thing.wide == wide
            and rank(thing) == wide)


def all_products(few, wide, prime):
    """The list of the lines of all products of any number of tables, told by their lines."""
    start = plain_lines(wide)
    seen = {start: True}
    found = [start]
    at = 0
    while at < len(found):
        for lines in few:
            product = lines_product(found[at], lines, wide, prime)
            if product not in seen:
                seen[product] = True
                found.append(product)
        if len(found) > MOST_TABLES:
            raise TooMany(MOST_TABLES)
        at += 1
    return found


def few_of(lots, wide, prime):
    """Of some tables, told by their lines, those that are no products of earlier ones of them."""
    few = []
    made = {plain_lines(wide): True}
    for lines in lots:
        if lines not in made:
            few.append(lines)
            made = {product: True for product in all_products(few, wide, prime)}
    return few


def check_house(thing):
    """BadHouse(None) unless the value is a House."""
    if not isinstance(thing, House):
        raise BadHouse(None)


def is_mild(house):
    """Whether the prime does not divide the number of tables."""
    check_house(house)
    return house.size % house.prime != 0


def has_table(house, thing):
    """Whether any value is one of the house's tables."""
    check_house(house)
    return isinstance(thing, Table) and thing in house.tables


def order_of(table):
    """The least number of factors, all the table, whose product is plain."""
    check_square(table)
    if rank(table) < table.tall:
        raise BadTable("a table with an inverse is wanted")
    order = 1
    power = table.lines
    # The power leads back each column of plain seen so far, so only the others can ask for more factors.
    for spot in range(table.tall):
        steps = period_of(power, spot, MOST_ORDER // order, table.prime)
        if steps == 0:
            raise TooMany(MOST_ORDER)
        if steps > 1:
            order = order * steps
            power = lines_power(power, steps, table.tall, table.prime)
    return order


def period_of(lines, spot, most, prime):
    """How many times a table leads the column with 1 at spot until it is back; 0 if more than most."""
    start = [1 if place == spot else 0 for place in range(len(lines))]
    column = start
    for steps in range(1, most + 1):
        column = [sum([x * y for x, y in zip(line, column)]) % prime for line in lines]
        if column == start:
            return steps
    return 0


def lines_power(lines, many, size, prime):
    """The lines of the product of so many factors, each the table of size lines with these lines."""
    total = plain_lines(size)
    factor = lines
    left = many
    while left > 0:
        if left & 1:
            total = lines_product(total, factor, size, prime)
        left = left >> 1
        if left > 0:
            factor = lines_product(factor, factor, size, prime)
    return total


def house_led(house, table):
    """The House of all t * g * t', t the table, t' its inverse, g of the house."""
    check_house(house)
    check_table(table)
    if not is_house_table(table, house.prime, house.wide):
        raise BadTable("a table with an inverse, of the house's prime and wide, is wanted")
    undoing = inverse(table)
    return House(house.prime, house.wide, [times(times(table, one), undoing) for one in house.few])


def house_beside(one, other):
    """The House of all tables with one's tables at the first unknowns and other's at the last ones."""
    check_house(one)
    check_house(other)
    if one.prime != other.prime:
        raise BadHouse("prime")
    wide = one.wide + other.wide
    if wide > MOST_WIDE:
        raise BadHouse("wide")
    first = [beside(table.lines, plain_lines(other.wide)) for table in one.few]
    last = [beside(plain_lines(one.wide), table.lines) for table in other.few]
    return House(one.prime, wide, [Table(one.prime, wide, wide, lines) for lines in first + last])


def beside(one, other):
    """The lines of the table with one above and left, other below and right, 0 elsewhere."""
    above = [line + (0,) * len(other) for line in one]
    below = [(0,) * len(one) + line for line in other]
    return above + below
