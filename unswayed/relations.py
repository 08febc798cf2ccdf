"""Between which products of makers there are relations, weight by weight."""

from unswayed.cycles import far_count
from unswayed.echelons import Echelon, tidy_zeros
from unswayed.levels import Levels
from unswayed.rowsfar import row_of
from unswayed.weighed import product_rows, weighed_rows


class Relations:
    """The equations of makers that have the present weight, and which of them those of lower weights make."""

    def __init__(self, house, makers, most):
        self.prime = house.prime
        self.wide = house.wide
        self.makers = makers
        self.weights = [maker.degree for maker in makers]
        self.levels = Levels(house.prime, house.wide, most)
        self.row = row_of(house)
        self.weight = 0
        # For each weight the rows and the independent equations of this weight, as lists of numbers.
        self.rows = [weighed_rows(self.weights, 0)]
        self.known = [[]]
        # What equations of lower weights make of the present weight.
        self.made = Echelon(house.prime, 1)

    def up(self):
        """Goes on to the next weight."""
        self.weight = self.weight + 1
        rows = weighed_rows(self.weights, self.weight)
        self.rows.append(rows)
        self.made = self.made_here(rows)
        whole = self.made.another()
        if self.lacking():
            for equation in self.equations():
                whole.put(equation)
        self.known.append([whole.numbers_of(pack) for pack in whole.packs])

    def many(self):
        """How many independent equations of the present weight there are."""
        # Makers make all unswayed Polys of the degree, so that what is over are equations.
        return len(self.rows[self.weight]) - far_count(self.wide, self.row, self.weight)

    def lacking(self):
        """How many equations of the present weight those of lower weights do not make."""
        return self.many() - len(self.made.spots)

    def made_here(self, rows):
        """The Echelon of all products of an unknown and an equation of a lower weight."""
        places = {row: at for at, row in enumerate(rows)}
        made = Echelon(self.prime, len(rows))
        many = self.many()
        for spot, weight in enumerate(self.weights):
            if weight <= self.weight and len(made.spots) < many:
                lower = self.rows[self.weight - weight]
                steps = [places[row[:spot] + (row[spot] + 1,) + row[spot + 1:]] for row in lower]
                for equation in self.known[self.weight - weight]:
                    made.put(moved_to(equation, steps, len(rows)))
        return made

    def equations(self):
        """The tidy list of all equations of the present weight."""
        vectors = [numbers for _, numbers in product_rows(self.levels, self.makers, self.weight)]
        return tidy_zeros(self.prime, len(vectors), [list(column) for column in zip(*vectors)])


def moved_to(numbers, places, many):
    """The list of many numbers that has the numbers at the places, and 0 elsewhere."""
    found = [0] * many
    for place, number in zip(places, numbers):
        found[place] = number
    return found
