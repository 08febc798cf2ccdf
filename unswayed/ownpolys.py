"""Polynomials whose keeper is a given inner house."""

from unswayed.between import signs_between
from unswayed.climbs import house_climb
from unswayed.counting import power_of
from unswayed.echelons import Echelon
from unswayed.errors import BadNumber
from unswayed.inner import check_inner
from unswayed.kinds import is_within
from unswayed.partings import climb_on, dot
from unswayed.polys import constant, poly_scaled, poly_sum

MOST_KEPT = 12


def kept_number(house, inner, degree):
    """How many Polys of degree at most degree have just inner as their keeper."""
    check_inner(house, inner)
    if not is_within(degree, 0, MOST_KEPT):
        raise BadNumber("degree")
    kept = KeptCounts(house, inner)
    while kept.degree < degree:
        kept.up()
    return kept.number()


class KeptCounts:
    """How many Polys of at most the present degree each house between inner and house leaves as they are."""

    def __init__(self, house, inner):
        self.prime = house.prime
        self.pairs = signs_between(house, inner)
        self.climbs = [house_climb(one, 0) for _, one in self.pairs]
        # For each house how many numbers tell such a Poly; one tells its layer of degree 0.
        self.counts = [1] * len(self.pairs)
        self.degree = 0

    def up(self):
        """Goes on to the next degree; TooMany(300) if there are more than 300 rows of it."""
        for climb in self.climbs:
            climb_on(climb)
        self.counts = [count + climb.unswayed_count() for count, climb in zip(self.counts, self.climbs)]
        self.degree = self.degree + 1

    def number(self):
        """How many of the Polys have just inner as their keeper."""
        return signed_total(self.pairs, self.prime, self.counts)


def signed_total(pairs, prime, counts):
    """The sum of the numbers of signs_between, each times prime to the power of a count."""
    return sum([number * power_of(prime, count) for (number, _), count in zip(pairs, counts)])


def own_degree(house, inner):
    """The least degree of a Poly whose keeper is inner; -1 if it is that of the Poly without terms."""
    check_inner(house, inner)
    kept = KeptCounts(house, inner)
    return -1 if inner.size == house.size else least_degree(kept)


def least_degree(kept):
    """The least degree in which there is a Poly whose keeper is the inner house; the counts climb up to it."""
    while kept.number() == 0:
        kept.up()
    return kept.degree


def own_poly(house, inner):
    """A Poly of the least degree whose keeper is inner."""
    check_inner(house, inner)
    kept = KeptCounts(house, inner)
    if inner.size == house.size:
        return constant(house.prime, house.wide, 0)
    mixture = Mixture(house.prime, kept.pairs)
    found = offered_polys(kept.pairs, least_degree(kept))
    # Those of the greatest degree come first: one of them is needed in any case.
    while mixture.number() == 0:
        mixture.put(found.pop())
    mixture = without_spare(mixture)
    return mixture.sum_of(mixture.first_factors())


def offered_polys(pairs, degree):
    """The unswayed Polys of the first house of the pairs with how the others sway them, by degrees.

    Each is a triple: the Poly, its degree, and for each house the numbers of what its few
    tables make of the Poly less the Poly.
    """
    climbs = [house_climb(one, 0) for _, one in pairs]
    found = []
    for at in range(1, degree + 1):
        for climb in climbs:
            climb.up()
        lots = [climb.equations() for climb in climbs]
        for numbers in climbs[0].unswayed():
            gaps = [[dot(equation, numbers) % climbs[0].prime for equation in lot] for lot in lots]
            found.append((climbs[0].poly(numbers), at, gaps))
    return found


class Mixture:
    """Some Polys that a house leaves as they are, and how many of their sums of multiples no greater house does."""

    def __init__(self, prime, pairs):
        self.prime = prime
        self.pairs = pairs
        self.parts = []
        # For the spot of each house and each degree an Echelon of the numbers by which it sways the Polys.
        self.echelons = {}

    def put(self, offered):
        """Takes one more Poly."""
        _, degree, gaps = offered
        self.parts.append(offered)
        for spot, gap in enumerate(gaps):
            if (spot, degree) not in self.echelons:
                self.echelons[(spot, degree)] = Echelon(self.prime, len(gap))
            self.echelons[(spot, degree)].put(gap)

    def number(self):
        """How many sums of multiples no greater house leaves as they are."""
        counts = [len(self.parts)] * len(self.pairs)
        for (spot, _), echelon in self.echelons.items():
            counts[spot] -= len(echelon.spots)
        return signed_total(self.pairs, self.prime, counts)

    def first_factors(self):
        """The first factors, none of them 0, whose sum of multiples no greater house leaves as it is."""
        many = self.prime - 1
        at = 0
        while True:
            factors = [at // power_of(many, place) % many + 1 for place in range(len(self.parts))]
            if all([self.sways(spot, factors) for spot in range(1, len(self.pairs))]):
                return factors
            at += 1

    def sways(self, spot, factors):
        """Whether the house with the index spot does not leave the sum of multiples as it is."""
        for degree in sorted({at: True for _, at, _ in self.parts}):
            lots = [[factor * number for number in gaps[spot]]
                    for factor, (_, at, gaps) in zip(factors, self.parts) if at == degree]
            if any([sum(column) % self.prime for column in zip(*lots)]):
                return True
        return False

    def sum_of(self, factors):
        """The sum of multiples of the Polys."""
        total = constant(self.prime, self.parts[0][0].wide, 0)
        for factor, (poly, _, _) in zip(factors, self.parts):
            total = poly_sum(total, poly_scaled(poly, factor))
        return total


def mixture_of(prime, pairs, lot):
    """The Mixture with these Polys taken."""
    mixture = Mixture(prime, pairs)
    for offered in lot:
        mixture.put(offered)
    return mixture


def without_spare(mixture):
    """The Mixture of so few of the Polys that none can be left out: then a sum that is right has no factor 0."""
    kept = mixture
    for offered in list(mixture.parts):
        less = mixture_of(mixture.prime, mixture.pairs, [other for other in kept.parts if other[0] != offered[0]])
        if less.number():
            kept = less
    return kept
