"""Which unswayed polynomials are needed beside products of those of lower degrees."""

from unswayed.climbs import Spaces
from unswayed.cycles import plain_toll
from unswayed.echelons import Echelon
from unswayed.levels import Levels
from unswayed.packs import MOST_DEGREE, MOST_ROWS, row_count


class Needs:
    """The needed Polys of all degrees up to the present one, chosen among the tidy lists."""

    def __init__(self, house):
        most = 1
        while most < MOST_DEGREE and row_count(house.wide, most + 1) <= MOST_ROWS:
            most += 1
        self.levels = Levels(house.prime, house.wide, most)
        self.spaces = Spaces(house, plain_toll(house))
        self.degree = 0
        # What products of makers of lower degrees make of the present degree.
        self.made = Echelon(house.prime, 1)
        # Pairs of the degree and the great number.
        self.makers = []
        # For each degree the great numbers of the tidy list.
        self.wholes = [[]]

    def up(self):
        """Goes on to the next degree."""
        self.degree = self.degree + 1
        rows = self.spaces.of(self.degree)
        made = Echelon(self.levels.prime, row_count(self.levels.wide, self.degree))
        pairs = [(maker, whole) for degree, maker in self.makers for whole in self.wholes[self.degree - degree]]
        for maker, whole in pairs:
            # As soon as all unswayed Polys of this degree are made, nothing more can come of products.
            if len(made.spots) == len(rows):
                break
            made.put(self.levels.unpack(maker * whole, self.degree))
        wholes = [self.levels.pack(row, self.degree) for row in rows]
        more = made.another()
        needed = [(self.degree, whole) for row, whole in zip(rows, wholes) if more.put(row)]
        self.made = made
        self.makers = self.makers + needed
        self.wholes.append(wholes)

    def lacking(self):
        """How many Polys are needed at the present degree."""
        return len([degree for degree, _ in self.makers if degree == self.degree])

    def chosen(self, items):
        """Those of some unswayed Polys of the present degree that are independent of one another and of products."""
        made = self.made.another()
        return [item for item in items if made.put(self.levels.numbers_of(item, self.degree))]

    def polys(self):
        """The needed Polys."""
        return [
            self.levels.poly(self.levels.unpack(whole, degree), degree)
            for degree, whole in self.makers]
