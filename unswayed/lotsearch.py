"""The search for free lots in 2 and 3 unknowns.

Lots are tried by their degrees. Where the degrees allow a lot over some wide field, a few
sums of multiples of the unswayed polynomials nearly always do; only over small fields
all of them must be tried, and there they are few.
"""

from unswayed.climbs import Spaces
from unswayed.commons import have_common_factor
from unswayed.counting import all_points, power_of
from unswayed.cycles import lessened_row, plain_toll, row_for
from unswayed.echelons import Echelon
from unswayed.farwork import common_factor
from unswayed.forms import form_lot
from unswayed.houses import is_mild
from unswayed.leadings import form_poly, lot_product
from unswayed.levels import Levels
from unswayed.packs import row_count
from unswayed.polys import Poly

MOST_PLANE = 96
FEW = 6


def factors_at(prime, size, at):
    """Among all lists of size factors that matter, multiples counted once, the one with this index; None behind all.

    The first ones are powers of 0, 1, 2 and so on: few of these have any one sum of
    multiples 0. Behind them come all that begin with 1 and zeros.
    """
    if at < prime:
        factors = [1]
        for _ in range(size - 1):
            factors.append(factors[-1] * at % prime)
        return factors
    left = at - prime
    for spot in reversed(range(size)):
        many = power_of(prime, size - spot - 1)
        if left < many:
            digits = [left // power_of(prime, place) % prime for place in range(size - spot - 1)]
            return [0] * spot + [1] + digits
        left -= many
    return None


def mixed(rows, at, prime):
    """The sum of multiples of rows with the index at; None behind all."""
    factors = factors_at(prime, len(rows), at) if rows else None
    if factors is None:
        return None
    return [sum([factor * number for factor, number in zip(factors, column)]) % prime for column in zip(*rows)]


def plane_lot(house):
    """A free lot in 2 unknowns, with a greatest degree as low as the search finds."""
    spaces = Spaces(house, plain_toll(house))
    for most in range(1, MOST_PLANE + 1):
        for least in range(1, most + 1):
            if least * most % house.size == 0:
                pair = plane_pair(house.prime, spaces.of(least), spaces.of(most))
                if pair is not None:
                    return [plane_poly(house.prime, numbers) for numbers in pair]
    return line_lot(house)


def plane_poly(prime, numbers):
    """The level Poly in 2 unknowns with these numbers, rows ascending."""
    degree = len(numbers) - 1
    return Poly(prime, 2, {(at, degree - at): number for at, number in enumerate(numbers)})


def plane_pair(prime, ones, others):
    """A sum of multiples of ones and one of others without a common factor; None if none is found."""
    if not ones or not others or has_plane_factor(prime, ones + others):
        return None
    for at in range(FEW):
        one = mixed(ones, at, prime)
        if one is None:
            return None
        for place in range(2 * FEW):
            other = mixed(others, place, prime)
            if other is None:
                break
            if not has_plane_factor(prime, [one, other]):
                return one, other
    return None


def has_plane_factor(prime, rows):
    """Whether level polynomials in 2 unknowns, told by their numbers, have a common factor."""
    # With 1 for the last unknown, only its own powers are lost as factors.
    if not any([row[-1] for row in rows]):
        return True
    common = rows[0]
    for row in rows[1:]:
        common = common_factor(common, row, prime)
    return len(common) > 1


def line_lot(house):
    """A free lot in 2 unknowns of lot products of forms, or of one and of a Poly of degree 2 without zeros."""
    first = lot_product(house, form_poly((0, 1), house.prime))
    taken = form_lot(house, (0, 1))
    for number in range(house.prime):
        lot = form_lot(house, (1, number))
        if not any([one[0] * two[1] % house.prime == one[1] * two[0] % house.prime for one in taken for two in lot]):
            return [first, lot_product(house, form_poly((1, number), house.prime))]
    return [first, lot_product(house, without_zeros_poly(house.prime))]


def without_zeros_poly(prime):
    """A level Poly of degree 2 in 2 unknowns that is 0 at no point of the field but 0."""
    for middle, last in all_points(prime, 2):
        if all([(x * x + middle * x + last) % prime for x in range(prime)]):
            return Poly(prime, 2, {(2, 0): 1, (1, 1): middle, (0, 2): last})
    return None


def space_lot(house, most):
    """A free lot in 3 unknowns whose degrees have a sum of at most this; None if there is none."""
    spaces = Spaces(house, plain_toll(house))
    left = []
    for degrees in degree_triples(house, most):
        search = TripleSearch(house.prime, spaces, degrees)
        if search.may_do() and search.has_planes():
            found = search.tried(FEW)
            if found is not None:
                return found
            left.append(search)
    for search in left:
        found = search.tried(None)
        if found is not None:
            return found
    return None


def degree_triples(house, most):
    """The triples of degrees, by the greatest one, that a free lot with a sum of degrees of at most this may have."""
    triples = [
        (one, two, three)
        for three in range(1, most + 1) for two in range(1, three + 1) for one in range(1, two + 1)
        if one + two + three <= most and one * two * three % house.size == 0]
    if not is_mild(house):
        return triples
    row = row_for(house, plain_toll(house), 0)
    return [degrees for degrees in triples if may_be_row(lessened_row(3, row, degrees))]


def may_be_row(counts):
    """Whether the counts, lessened by the degrees of a lot, may tell how many others there are."""
    return counts is not None and min(counts) >= 0


class TripleSearch:
    """The search for a free lot in 3 unknowns with the given degrees, which do not fall."""

    def __init__(self, prime, spaces, degrees):
        self.prime = prime
        self.degrees = degrees
        self.lists = [spaces.of(degree) for degree in degrees]
        self.above = sum(degrees) - 2
        self.levels = Levels(prime, 3, self.above)

    def put_all(self, echelon, rows, degree):
        """Puts all products, of the degree above, of Polys of this degree."""
        for row in rows:
            for numbers in self.levels.multiples(self.levels.pack(row, degree), degree, self.above):
                if len(echelon.spots) == echelon.wide:
                    return
                echelon.put(numbers)

    def fills(self, echelon, spot):
        """Whether the echelon and all Polys of the lists from spot on make all rows of the degree above."""
        more = echelon.another()
        for rows, degree in zip(self.lists[spot:], self.degrees[spot:]):
            self.put_all(more, rows, degree)
        return len(more.spots) == more.wide

    def start(self):
        """An echelon without rows."""
        return Echelon(self.prime, row_count(3, self.above))

    def may_do(self):
        """Whether there are Polys enough, and they have no common zero."""
        if any([len(rows) < self.degrees.count(degree) for rows, degree in zip(self.lists, self.degrees)]):
            return False
        return self.fills(self.start(), 0)

    def tried(self, most):
        """A free lot among so many sums of multiples for each degree, or among all for None; None if none is found."""
        at = 0
        one = mixed(self.lists[0], at, self.prime)
        while one is not None and (most is None or at < most):
            echelon = self.start()
            self.put_all(echelon, [one], self.degrees[0])
            if most is not None or self.fills(echelon, 1):
                found = self.tried_second(one, echelon, most)
                if found is not None:
                    return found
            at += 1
            one = mixed(self.lists[0], at, self.prime)
        return None

    def tried_second(self, one, echelon, most):
        """What tried tells, with one for the first degree."""
        first, second, _ = self.degrees
        rows = self.unlike(self.lists[1], second, [(one, first)])
        at = 0
        two = mixed(rows, at, self.prime)
        while two is not None and (most is None or at < most):
            more = echelon.another()
            self.put_all(more, [two], second)
            # Just so many rows are left over if both have no common factor.
            if more.wide - len(more.spots) == first * second and (most is not None or self.fills(more, 2)):
                found = self.tried_third(one, two, more, most)
                if found is not None:
                    return found
            at += 1
            two = mixed(rows, at, self.prime)
        return None

    def tried_third(self, one, two, echelon, most):
        """What tried tells, with one and two for the first degrees."""
        first, second, third = self.degrees
        pairs = [(one, first), (two, second)]
        rows = self.unlike(self.lists[2], third, pairs)
        shifts = self.left_shifts(pairs, self.above - third)
        at = 0
        three = mixed(rows, at, self.prime)
        while three is not None and (most is None or at < 2 * most):
            if self.fits(echelon, self.levels.pack(three, third), shifts):
                return [
                    self.levels.poly(numbers, degree)
                    for numbers, degree in [(one, first), (two, second), (three, third)]]
            at += 1
            three = mixed(rows, at, self.prime)
        return None

    def unlike(self, rows, degree, pairs):
        """Those rows of this degree that are independent, products of the pairs' Polys counting as 0."""
        echelon = Echelon(self.prime, len(rows[0]))
        for numbers, less in pairs:
            if less <= degree:
                for product in self.levels.multiples(self.levels.pack(numbers, less), less, degree):
                    echelon.put(product)
        return [row for row in rows if echelon.put(row)]

    def left_shifts(self, pairs, degree):
        """The shifts of the rows of this degree that begin no sum of products of the pairs' Polys."""
        echelon = Echelon(self.prime, row_count(3, degree))
        for numbers, less in pairs:
            if less <= degree:
                for product in self.levels.multiples(self.levels.pack(numbers, less), less, degree):
                    echelon.put(product)
        gone = {spot: True for spot in echelon.spots}
        return [shift for spot, shift in enumerate(self.levels.shifts_at(degree)) if spot not in gone]

    def fits(self, echelon, whole, shifts):
        """Whether the echelon and the products of a Poly make all rows of the degree above."""
        more = echelon.another()
        for shift in shifts:
            if not more.put(self.levels.unpack(whole << shift, self.above)):
                return False
        return len(more.spots) == more.wide

    def has_planes(self):
        """Whether over some wide field two Polys of any two of the degrees have no common factor."""
        things = [[(row, degree) for row in rows] for rows, degree in zip(self.lists, self.degrees)]
        return not any([
            have_common_factor(self.levels, things[one] + things[two]) for one, two in ((0, 1), (0, 2), (1, 2))])
