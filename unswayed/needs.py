"""Which unswayed polynomials are needed beside products of those of lower degrees."""

from unswayed.climbs import Spaces
from unswayed.cycles import plain_toll
from unswayed.echelons import Echelon
from unswayed.levels import Levels
from unswayed.packs import MOST_DEGREE, MOST_ROWS, row_count


class Needs:
    """The needed Polys of all degrees up to the present one, chosen among the tidy lists."""

    def __init__(self, house):
        most = 1
        while most < MOST_DEGREE and row_count(house.wide, most + 1) <= MOST_ROWS:
            most += 1
        self.levels = Levels(house.prime, house.wide, most)
        self.spaces = Spaces(house, plain_toll(house))
        self.degree = 0
        # Pairs of the degree and the great number.
        self.makers = []
        # For each degree the great numbers of the tidy list.
        self.wholes = [[]]

    def up(self):
        """Goes on to the next degree."""
        self.degree = self.degree + 1
        rows = self.spaces.of(self.degree)
        echelon = Echelon(self.levels.prime, row_count(self.levels.wide, self.degree))
        pairs = [(maker, whole) for degree, maker in self.makers for whole in self.wholes[self.degree - degree]]
        for maker, whole in pairs:
            # As soon as all unswayed Polys of this degree are made, nothing more can come of products.
            if len(echelon.spots) == len(rows):
                break
            echelon.put(self.levels.unpack(maker * whole, self.degree))
        wholes = [self.levels.pack(row, self.degree) for row in rows]
        needed = [(self.degree, whole) for row, whole in zip(rows, wholes) if echelon.put(row)]
        self.makers = self.makers + needed
        self.wholes.append(wholes)

    def polys(self):
        """The needed Polys."""
        return [
            self.levels.poly(self.levels.unpack(whole, degree), degree)
            for degree, whole in self.makers]
