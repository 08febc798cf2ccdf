"""Where tables lead the rows of one degree, climbing from degree to degree."""

from unswayed.echelons import echelon_of, tidy_zeros
from unswayed.packs import level_rows
from unswayed.polys import Poly


class Climb:
    """The rows of the present degree, and for each table the Polys to which it leads them.

    images has for each table one list for each row: the numbers of the Poly to which the
    row is led, in the sequence of rows. tables are told by their lines, and factors has
    for each table the number by which it may change what is asked for: 1 for what is unswayed.
    """

    def __init__(self, prime, wide, tables, factors):
        self.prime = prime
        self.wide = wide
        self.tables = tables
        self.factors = factors
        self.degree = 0
        self.rows = level_rows(wide, 0)
        self.images = [[[1]] for _ in tables]

    def up(self):
        """Goes on to the next degree."""
        self.degree = self.degree + 1
        below = {row: at for at, row in enumerate(self.rows)}
        rows = level_rows(self.wide, self.degree)
        places = {row: at for at, row in enumerate(rows)}
        steps = [[places[row_above(row, spot)] for row in self.rows] for spot in range(self.wide)]
        self.images = [
            [image_above(images[below[row_below(row)]], lines[first_spot(row)], steps, self.prime) for row in rows]
            for lines, images in zip(self.tables, self.images)]
        self.rows = rows

    def equations(self):
        """The rows of numbers that lead just the Polys of the present degree to 0 that change by the factors alone."""
        found = []
        for images, factor in zip(self.images, self.factors):
            for at in range(len(self.rows)):
                equation = [image[at] for image in images]
                equation[at] = equation[at] - factor
                found.append(equation)
        return found

    def unswayed_count(self):
        """How many independent Polys of the present degree the tables change by the factors alone."""
        return len(self.rows) - len(echelon_of(self.prime, len(self.rows), self.equations()).spots)

    def unswayed(self):
        """The tidy list of the numbers of the Polys that the tables change by the factors alone, one for each row."""
        return tidy_zeros(self.prime, len(self.rows), self.equations())

    def poly(self, numbers):
        """The Poly with these numbers at the rows."""
        return Poly(self.prime, self.wide, {row: number for row, number in zip(self.rows, numbers)})


def row_above(row, spot):
    """The row with one more at spot."""
    return row[:spot] + (row[spot] + 1,) + row[spot + 1:]


def first_spot(row):
    """The first spot of a row at which it is not 0."""
    spot = 0
    while row[spot] == 0:
        spot += 1
    return spot


def row_below(row):
    """The row with one less at its first spot."""
    spot = first_spot(row)
    return row[:spot] + (row[spot] - 1,) + row[spot + 1:]


def image_above(image, line, steps, prime):
    """The numbers of a Poly times the form with the numbers of line; steps tells where each unknown leads a row."""
    total = [0] * (max(steps[0]) + 1)
    for factor, places in zip(line, steps):
        if factor:
            for number, place in zip(image, places):
                total[place] += factor * number
    return [number % prime for number in total]


def climb_to(prime, wide, tables, degree):
    """The Climb of tables, told by their lines, at this degree."""
    climb = Climb(prime, wide, tables, [1] * len(tables))
    for _ in range(degree):
        climb.up()
    return climb


def house_climb(house, degree):
    """The Climb of some tables of the house that leave alone what all leave alone, at this degree."""
    return climb_to(house.prime, house.wide, [table.lines for table in house.few], degree)


def toll_climb(house, toll):
    """The Climb, at degree 0, of what the tables of the house change by the toll's numbers alone."""
    factors = [toll[house.tables.index(table)] for table in house.few]
    return Climb(house.prime, house.wide, [table.lines for table in house.few], factors)


class Spaces:
    """The tidy lists of the numbers of what a house changes by a toll's numbers alone, degree by degree."""

    def __init__(self, house, toll):
        self.climb = toll_climb(house, toll)
        self.lists = [self.climb.unswayed()]

    def of(self, degree):
        """The tidy list of this degree."""
        while len(self.lists) <= degree:
            self.climb.up()
            self.lists.append(self.climb.unswayed())
        return self.lists[degree]
