"""What is left of polynomials when all that is made with unswayed factors is gone."""

from unswayed.climbs import Spaces, climb_to, row_above, toll_climb
from unswayed.cycles import check_mild, plain_toll
from unswayed.degrees import check_degree
from unswayed.echelons import Echelon
from unswayed.errors import BadTable, TooMany
from unswayed.houses import check_house, has_table
from unswayed.leadings import check_house_poly
from unswayed.lotwork import check_layers
from unswayed.packs import MOST_ROWS, level_rows, row_count
from unswayed.polys import Poly, check_poly
from unswayed.tables import MOST_LINES, Table, check_table
from unswayed.tolls import check_toll


class Gone:
    """The gone Polys of the present degree, as an Echelon of their numbers."""

    def __init__(self, house):
        self.prime = house.prime
        self.wide = house.wide
        self.spaces = Spaces(house, plain_toll(house))
        self.degree = 0
        self.rows = level_rows(house.wide, 0)
        self.echelon = Echelon(house.prime, 1)

    def is_all(self):
        """Whether all Polys of the present degree are gone, and so all of higher ones."""
        return len(self.echelon.spots) == len(self.rows)

    def up(self):
        """Goes on to the next degree; not where all are gone."""
        self.degree = self.degree + 1
        rows = level_rows(self.wide, self.degree)
        places = {row: at for at, row in enumerate(rows)}
        echelon = Echelon(self.prime, len(rows))
        lower = [self.echelon.numbers_of(pack) for pack in self.echelon.packs]
        for spot in range(self.wide):
            steps = [places[row_above(row, spot)] for row in self.rows]
            for below in lower:
                numbers = [0] * len(rows)
                for place, number in zip(steps, below):
                    numbers[place] = number
                echelon.put(numbers)
        for numbers in self.spaces.of(self.degree):
            echelon.put(numbers)
        self.rows = rows
        self.echelon = echelon

    def left(self):
        """The ascending list of the rows of the present degree that are left."""
        gone = {spot: True for spot in self.echelon.spots}
        return [row for spot, row in enumerate(self.rows) if spot not in gone]


def gone_at(house, degree):
    """The Gone of this degree; None if all is gone there."""
    gone = Gone(house)
    while gone.degree < degree:
        gone.up()
        if gone.is_all():
            return None
    return gone


def left_rows(house, degree):
    """The ascending list of the rows of this degree that are left."""
    check_mild(house)
    check_degree(house, degree)
    gone = gone_at(house, degree)
    return [] if gone is None else gone.left()


def rest_of(house, poly):
    """The Poly with rows that are left alone for which poly less it is gone."""
    check_house(house)
    check_poly(poly)
    check_mild(house)
    check_house_poly(house, poly)
    check_layers(poly)
    gone = Gone(house)
    terms = poly.terms
    rest = {}
    for degree in range(poly.degree + 1):
        if degree:
            gone.up()
        if gone.is_all():
            break
        numbers = gone.echelon.rest([terms.get(row, 0) for row in gone.rows])
        for row, number in zip(gone.rows, numbers):
            rest[row] = number
    return Poly(house.prime, house.wide, rest)


def rest_table(house, table, degree):
    """The Table whose columns are the rests of what the table leads the left rows of this degree to."""
    check_house(house)
    check_table(table)
    check_mild(house)
    if not has_table(house, table):
        raise BadTable("a Table of the house is wanted")
    check_degree(house, degree)
    gone = gone_at(house, degree)
    left = [] if gone is None else gone.left()
    if len(left) > MOST_LINES:
        raise TooMany(MOST_LINES)
    if not left:
        return Table(house.prime, 0, 0, [])
    images = climb_to(house.prime, house.wide, [table.lines], degree).images[0]
    columns = [gone.echelon.rest(image) for image, row in zip(images, gone.rows) if row in left]
    lines = [[column[at] for column in columns] for at, row in enumerate(gone.rows) if row in left]
    return Table(house.prime, len(left), len(left), lines)


def go_up(gone):
    """Goes on to the next degree; TooMany(300) if there are more than 300 rows of it."""
    if row_count(gone.wide, gone.degree + 1) > MOST_ROWS:
        raise TooMany(MOST_ROWS)
    gone.up()


def rest_row(house):
    """How many rows of degree 0, 1, 2 and so on are left, up to the last number that is not 0."""
    check_mild(house)
    gone = Gone(house)
    numbers = []
    while not gone.is_all():
        numbers.append(len(gone.left()))
        go_up(gone)
    return tuple(numbers)


def toll_makers(house, toll):
    """As few level Polys tolled by the toll as can be whose products with unswayed Polys make all tolled ones."""
    check_mild(house)
    check_toll(house, toll)
    gone = Gone(house)
    climb = toll_climb(house, toll)
    makers = []
    while not gone.is_all():
        # In a mild house what is tolled and gone is made of tolled ones of lower degrees.
        echelon = gone.echelon.another()
        makers = makers + [climb.poly(numbers) for numbers in climb.unswayed() if echelon.put(numbers)]
        go_up(gone)
        climb.up()
    return makers
