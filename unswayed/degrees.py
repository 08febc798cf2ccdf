"""The unswayed polynomials of each degree."""

from unswayed.climbs import climb_to, house_climb
from unswayed.errors import BadNumber, BadTable, TooMany
from unswayed.houses import MOST_WIDE, check_house
from unswayed.kinds import is_within
from unswayed.packs import MOST_DEGREE, check_rows, row_count
from unswayed.tables import MOST_LINES, Table, check_square


def unswayed_of(house, degree):
    """The tidy list of level unswayed Polys of which each one of this degree is told in just one way."""
    check_degree(house, degree)
    climb = house_climb(house, degree)
    return [climb.poly(numbers) for numbers in climb.unswayed()]


def count_of(house, degree):
    """How many Polys unswayed_of has."""
    check_degree(house, degree)
    return house_climb(house, degree).unswayed_count()


def check_degree(house, degree):
    """The errors of a House and a degree of which all rows are looked at."""
    check_house(house)
    if not is_within(degree, 0, MOST_DEGREE):
        raise BadNumber("degree")
    check_rows(house.wide, degree)


def led_table(table, degree):
    """The Table whose columns are the Polys to which the table leads the rows of this degree."""
    check_square(table)
    if not 1 <= table.tall <= MOST_WIDE:
        raise BadTable("a table with 1 to 3 lines is wanted")
    if not is_within(degree, 0, MOST_DEGREE):
        raise BadNumber("degree")
    many = row_count(table.wide, degree)
    if many > MOST_LINES:
        raise TooMany(MOST_LINES)
    columns = climb_to(table.prime, table.wide, [table.lines], degree).images[0]
    lines = [[column[at] for column in columns] for at in range(many)]
    return Table(table.prime, many, many, lines)
