"""Level polynomials as lists of numbers, one for each row of their degree, and as great numbers.

The great number of a level polynomial has its numbers as digits, so that a product of
two polynomials is one product of whole numbers: what is looked at in each degree would
take minutes otherwise.
"""

from unswayed.echelons import Echelon
from unswayed.packs import level_rows, row_count
from unswayed.polys import Poly


class Levels:
    """How level polynomials in wide unknowns, of degrees up to most, are written as great numbers."""

    def __init__(self, prime, wide, most):
        self.prime = prime
        self.wide = wide
        self.stride = most + 1
        # A digit must hold what comes up in a product before anything is reduced.
        self.bits = (prime * prime * row_count(wide, most)).bit_length()
        self._rows = {}
        self._shifts = {}

    def rows_at(self, degree):
        """The ascending list of the rows of this degree."""
        if degree not in self._rows:
            self._rows[degree] = level_rows(self.wide, degree)
        return self._rows[degree]

    def shifts_at(self, degree):
        """For each row of this degree by how many bits its number is moved up."""
        if degree not in self._shifts:
            self._shifts[degree] = [self.shift_of(row) for row in self.rows_at(degree)]
        return self._shifts[degree]

    def shift_of(self, row):
        """By how many bits the great number of the row alone, with 1, is moved up."""
        place = 0
        # The last exponent is told by the degree.
        for exponent in row[:-1]:
            place = place * self.stride + exponent
        return place * self.bits

    def pack(self, numbers, degree):
        """The great number of a level polynomial of this degree."""
        whole = 0
        for number, shift in zip(numbers, self.shifts_at(degree)):
            if number:
                whole = whole | (number << shift)
        return whole

    def unpack(self, whole, degree):
        """The numbers, modulo the prime, of a great number of this degree."""
        mask = (1 << self.bits) - 1
        return [((whole >> shift) & mask) % self.prime for shift in self.shifts_at(degree)]

    def product(self, one, other, degree):
        """The great number of the product of two great numbers; degree is that of the product."""
        return self.pack(self.unpack(one * other, degree), degree)

    def numbers_of(self, poly, degree):
        """The numbers of the layer of a Poly of this degree."""
        terms = poly.terms
        return [terms.get(row, 0) for row in self.rows_at(degree)]

    def pack_of(self, poly):
        """The great number of a level Poly."""
        return self.pack(self.numbers_of(poly, poly.degree), poly.degree)

    def poly(self, numbers, degree):
        """The level Poly of this degree with these numbers."""
        return Poly(self.prime, self.wide, {row: number for row, number in zip(self.rows_at(degree), numbers)})

    def multiples(self, whole, degree, most):
        """The lists of numbers of the products, of degree most, of each row and the great number of this degree."""
        return [self.unpack(whole << shift, most) for shift in self.shifts_at(most - degree)]


def told_in(prime, vectors, goals):
    """For each goal the factors whose multiples of the independent vectors sum up to it; None where there are none."""
    many = len(vectors)
    wide = len(vectors[0]) if vectors else 0
    echelon = Echelon(prime, wide + many)
    for at, vector in enumerate(vectors):
        echelon.put(vector + [1 if place == at else 0 for place in range(many)])
    told = []
    for goal in goals:
        # What is left behind the goal tells which multiples were taken off.
        rest = echelon.rest(goal + [0] * many) if many else goal
        told.append(None if any(rest[:len(goal)]) else [-number % prime for number in rest[len(goal):]])
    return told
