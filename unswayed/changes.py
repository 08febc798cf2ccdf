"""Changes of coordinates from one house to another one, and what shows that there is none."""

from unswayed.cycles import stretch_poly
from unswayed.degrees import count_of
from unswayed.echelons import tidy_zeros
from unswayed.errors import BadTable
from unswayed.houses import MOST_WIDE, check_house, house_led, is_house_table, is_mild, order_of
from unswayed.inner import check_houses
from unswayed.leadings import form_poly
from unswayed.orbitcounts import bound_of
from unswayed.slopes import determinant_of
from unswayed.solving import rank
from unswayed.spots import plain_spot, product_spots
from unswayed.tables import Table, check_square

MOST_COMPARED = 6


def sign_of(table):
    """The order of a table, the rank of table - plain, and the numbers of the determinant of T * plain - table."""
    check_square(table)
    if not 1 <= table.tall <= MOST_WIDE:
        raise BadTable("a table with 1 to 3 lines is wanted")
    bound = Table(table.prime, table.tall, table.wide, bound_of(table))
    return order_of(table), rank(bound), tuple(stretch_poly(table)[::-1])


def signs_of(house):
    """The ascending dict from the signs of the tables of a house to how many tables have them."""
    check_house(house)
    signs = [sign_of(table) for table in house.tables]
    return {sign: signs.count(sign) for sign in sorted(signs)}


def is_change(one, other, thing):
    """Whether any value is a change from one House to the other one."""
    check_houses(one, other)
    return is_house_table(thing, one.prime, one.wide) and house_led(one, thing) == other


def change(one, other):
    """A change from one House to the other one; None if there is none."""
    check_houses(one, other)
    if signs_of(one) != signs_of(other):
        return None
    # Mild houses of the same signs have the same counts.
    if not is_mild(one) and unlike_count(one, other) is not None:
        return None
    return ChangeSearch(one, other).found()


def unlike_count(one, other):
    """The least degree from 1 to 6 in which two houses have unlike counts, with these; None if there is none."""
    for degree in range(1, MOST_COMPARED + 1):
        counts = count_of(one, degree), count_of(other, degree)
        if counts[0] != counts[1]:
            return (degree,) + counts
    return None


def what_parts(one, other):
    """The first thing that shows that two Houses are not alike; None if they are."""
    check_houses(one, other)
    if one.size != other.size:
        return "size", one.size, other.size
    first = signs_of(one)
    second = signs_of(other)
    for sign in sorted(list(first) + list(second)):
        if first.get(sign, 0) != second.get(sign, 0):
            return "sign", sign, first.get(sign, 0), second.get(sign, 0)
    if change(one, other) is not None:
        return None
    unlike = unlike_count(one, other)
    return ("change",) if unlike is None else ("degree",) + unlike


class ChangeSearch:
    """The search for a change between two Houses of the same signs.

    A change leads the few tables that make one house to tables of the other house, and
    products to products. So all ways are tried to tell for each of the few tables one of
    the same sign, as far as products fit; then changes are what leads them there.
    """

    def __init__(self, one, other):
        self.one = one
        self.other = other
        self.few = [one.tables.index(table) for table in one.few]
        self.signs = [sign_of(table) for table in one.tables]
        self.goals = [sign_of(table) for table in other.tables]
        self.products = product_spots(one)
        self.images = product_spots(other)
        self.plains = plain_spot(one), plain_spot(other)

    def found(self):
        """A change; None if there is none."""
        return self.found_behind([])

    def found_behind(self, lot):
        """A change that leads the first few tables to those whose spots the lot has; None if there is none."""
        table = self.leading_table(lot)
        if table is None or len(lot) == len(self.few):
            return table
        for spot in range(len(self.goals)):
            if self.goals[spot] == self.signs[self.few[len(lot)]] and self.fits(lot + [spot]):
                table = self.found_behind(lot + [spot])
                if table is not None:
                    return table
        return None

    def fits(self, lot):
        """Whether products of the first few tables can be led to products of those of the lot, of the same signs."""
        led_to = {self.plains[0]: self.plains[1]}
        queue = [self.plains[0]]
        at = 0
        while at < len(queue):
            for spot, goal in zip(self.few, lot):
                made = self.products[queue[at]][spot]
                image = self.images[led_to[queue[at]]][goal]
                if made not in led_to:
                    if self.signs[made] != self.goals[image]:
                        return False
                    led_to[made] = image
                    queue.append(made)
                elif led_to[made] != image:
                    return False
            at += 1
        # Only plain has the sign of plain, so that no two tables are led to one.
        return True

    def leading_table(self, lot):
        """A table t with an inverse such that t * g is h * t for the first few g and those h of the lot; or None."""
        size = self.one.wide
        equations = []
        for spot, goal in zip(self.few, lot):
            first = self.one.tables[spot].lines
            last = self.other.tables[goal].lines
            equations = equations + [
                equation_at(first, last, at, place, size) for at in range(size) for place in range(size)]
        rows = tidy_zeros(self.one.prime, size * size, equations)
        factors = factors_with_inverse(self.one.prime, size, rows)
        if factors is None:
            return None
        numbers = [sum([factor * number for factor, number in zip(factors, column)]) for column in zip(*rows)]
        return Table(self.one.prime, size, size, [numbers[at * size:(at + 1) * size] for at in range(size)])


def equation_at(first, last, at, place, size):
    """The numbers by which t * first - last * t hangs, in line at and column place, on those of t, line by line."""
    equation = [0] * (size * size)
    for spot in range(size):
        equation[at * size + spot] += first[spot][place]
        equation[spot * size + place] -= last[at][spot]
    return equation


def factors_with_inverse(prime, size, rows):
    """Factors whose sum of multiples of the rows, as a table of size lines, has an inverse; None if there are none."""
    many = len(rows)
    if many == 0:
        return None
    lines = []
    for at in range(size):
        columns = [[row[at * size + place] for row in rows] for place in range(size)]
        lines.append([form_poly(column, prime) for column in columns])
    terms = lowered(determinant_of(lines).terms, prime)
    factors = []
    for spot in range(many):
        # A polynomial whose exponents are all below the prime is 0 at all points only if it has no terms.
        pairs = [(number, put_number(terms, spot, number, prime)) for number in range(prime)]
        pairs = [(number, rest) for number, rest in pairs if rest]
        if not pairs:
            return None
        number, terms = pairs[0]
        factors.append(number)
    return factors


def lowered(terms, prime):
    """The terms with exponents below the prime that have the same numbers at all points of the field."""
    found = {}
    for row, number in terms.items():
        key = tuple([exponent if exponent == 0 else (exponent - 1) % (prime - 1) + 1 for exponent in row])
        found[key] = (found.get(key, 0) + number) % prime
    return {row: number for row, number in found.items() if number}


def put_number(terms, spot, number, prime):
    """The terms, those that are 0 left out, that come of putting a number in for one unknown."""
    found = {}
    for row, factor in terms.items():
        key = row[:spot] + (0,) + row[spot + 1:]
        value = factor
        for _ in range(row[spot]):
            value = value * number % prime
        found[key] = (found.get(key, 0) + value) % prime
    return {row: value for row, value in found.items() if value}
