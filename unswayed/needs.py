"""Which unswayed polynomials are needed beside products of those of lower degrees."""

from unswayed.climbs import Spaces
from unswayed.cycles import plain_toll
from unswayed.echelons import Echelon
from unswayed.levels import Levels
from unswayed.packs import MOST_DEGREE, MOST_ROWS, row_count


class Needs:
    """The needed Polys of all degrees up to the present one, chosen among the tidy lists."""

    def __init__(self, house):
        most = 1
        while most < MOST_DEGREE and row_count(house.wide, most + 1) <= MOST_ROWS:
            most += 1
        self.levels = Levels(house.prime, house.wide, most)
        self.spaces = Spaces(house, plain_toll(house))
        self.degree = 0
        # Pairs of the degree and the great number.
        self.makers = []
        self.packs = [[]]

    def up(self):
        """Goes on to the next degree."""
        self.degree = self.degree + 1
        rows = self.spaces.of(self.degree)
        echelon = Echelon(self.levels.prime, row_count(self.levels.wide, self.degree))
        for degree, maker in self.makers:
            for whole in self.packs[self.degree - degree]:
                # As soon as all unswayed Polys of this degree are made, nothing more can come of products.
                if len(echelon.spots) < len(rows):
                    echelon.put(self.levels.unpack(maker * whole, self.degree))
        packs = [self.levels.pack(row, self.degree) for row in rows]
        self.makers = self.makers + [(self.degree, pack) for row, pack in zip(rows, packs) if echelon.put(row)]
        self.packs.append(packs)

    def polys(self):
        """The needed Polys."""
        return [
            self.levels.poly(self.levels.unpack(whole, degree), degree)
            for degree, whole in self.makers]
