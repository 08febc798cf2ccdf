"""Slants: sums of polynomials times products of signs that change their sign when they change places."""

from unswayed.cycles import picked
from unswayed.errors import BadNumber, BadPoly, BadSlant, BadTable, TooMany
from unswayed.houses import MOST_WIDE
from unswayed.kinds import check_prime, is_list, is_within
from unswayed.leadings import led
from unswayed.packs import MOST_DEGREE
from unswayed.polys import Poly, check_poly, constant, letter, poly_product, poly_scaled, poly_sum
from unswayed.putting import slope
from unswayed.slopes import sign_of_sequence
from unswayed.solving import determinant
from unswayed.tables import Table, check_table


def check_grade(wide, grade):
    """BadNumber("wide"), BadNumber("grade") unless there are picks of grade numbers below wide."""
    if not is_within(wide, 1, MOST_WIDE):
        raise BadNumber("wide")
    if not is_within(grade, 0, wide):
        raise BadNumber("grade")


def picks_of(wide, grade):
    """The ascending list of the ascending tuples of grade unlike numbers from 0 to wide - 1."""
    check_grade(wide, grade)
    return picked(wide, grade)


class Slant:
    """A sum of Polys, one for each pick, each times the product of the signs that its pick tells."""

    def __init__(self, prime, wide, grade, parts):
        check_prime(prime)
        check_grade(wide, grade)
        if not is_list(parts) or len(parts) != len(picked(wide, grade)):
            raise BadSlant("a list of one Poly for each pick is wanted")
        if not all([isinstance(part, Poly) and part.prime == prime and part.wide == wide for part in parts]):
            raise BadSlant("Polys of this prime and wide are wanted")
        self.prime = prime
        self.wide = wide
        self.grade = grade
        self.parts = tuple(parts)

    def __eq__(self, other):
        return (isinstance(other, Slant) and self.prime == other.prime and self.wide == other.wide
                and self.grade == other.grade and self.parts == other.parts)


def check_slant(thing):
    """BadSlant unless the value is a Slant."""
    if not isinstance(thing, Slant):
        raise BadSlant("a Slant is wanted")


def picks_in(slant):
    """The pairs of the picks and the parts of a Slant."""
    return list(zip(picked(slant.wide, slant.grade), slant.parts))


def slant_from(prime, wide, grade, pairs):
    """The Slant that is the sum of pairs of a sequence of signs and a Poly."""
    sums = {pick: constant(prime, wide, 0) for pick in picked(wide, grade)}
    for signs, poly in pairs:
        pick = tuple(sorted(signs))
        # A sign that stands twice makes the product 0: its pick is none.
        if pick in sums:
            sums[pick] = poly_sum(sums[pick], poly_scaled(poly, sign_of_sequence(signs)))
    return Slant(prime, wide, grade, [sums[pick] for pick in sums])


def slant_sum(one, other):
    """The sum of two Slants of one grade."""
    check_slant(one)
    check_slant(other)
    if (one.prime, one.wide, one.grade) != (other.prime, other.wide, other.grade):
        raise BadSlant("the Slants have unlike primes, numbers of unknowns or grades")
    parts = [poly_sum(part, more) for part, more in zip(one.parts, other.parts)]
    return Slant(one.prime, one.wide, one.grade, parts)


def slant_scaled(slant, poly):
    """The Slant whose parts are those of slant times poly."""
    check_slant(slant)
    check_poly(poly)
    if poly.prime != slant.prime or poly.wide != slant.wide:
        raise BadPoly("a Poly of the Slant's prime and wide is wanted")
    check_degrees([(part, poly) for part in slant.parts])
    return Slant(slant.prime, slant.wide, slant.grade, [poly_product(part, poly) for part in slant.parts])


def check_degrees(pairs):
    """TooMany(120) if the product of a pair of Polys with terms has a degree above 120."""
    for one, other in pairs:
        if min(one.degree, other.degree) >= 0 and one.degree + other.degree > MOST_DEGREE:
            raise TooMany(MOST_DEGREE)


def slant_product(one, other):
    """The product of two Slants, one first."""
    check_slant(one)
    check_slant(other)
    grade = one.grade + other.grade
    if one.prime != other.prime or one.wide != other.wide or grade > one.wide:
        raise BadSlant("the Slants have unlike primes or numbers of unknowns, or their grades are too high")
    kept = [
        (pick + more, part, factor)
        for pick, part in picks_in(one) for more, factor in picks_in(other)
        if not any([sign in more for sign in pick])]
    check_degrees([(part, factor) for _, part, factor in kept])
    pairs = [(signs, poly_product(part, factor)) for signs, part, factor in kept]
    return slant_from(one.prime, one.wide, grade, pairs)


def poly_slant(poly):
    """The Slant of grade 0 with this part."""
    check_poly(poly)
    if poly.wide > MOST_WIDE:
        raise BadPoly("a Poly in 1 to 3 unknowns is wanted")
    return Slant(poly.prime, poly.wide, 0, [poly])


def slope_slant(slant):
    """The sum of the slopes of all parts, each times the sign of its unknown and those of its pick."""
    check_slant(slant)
    if slant.grade == slant.wide:
        raise BadSlant("a Slant of a grade below wide is wanted")
    pairs = [((spot,) + pick, slope(part, spot)) for pick, part in picks_in(slant) for spot in range(slant.wide)]
    return slant_from(slant.prime, slant.wide, slant.grade + 1, pairs)


def drop_slant(slant):
    """The sum of all parts times an unknown of their pick, which goes, with changing signs."""
    check_slant(slant)
    if slant.grade == 0:
        raise BadSlant("a Slant of a grade above 0 is wanted")
    letters = [letter(slant.prime, slant.wide, spot) for spot in range(slant.wide)]
    check_degrees([(part, letters[0]) for part in slant.parts])
    pairs = []
    for pick, part in picks_in(slant):
        for at, spot in enumerate(pick):
            product = poly_product(letters[spot], part)
            pairs.append((pick[:at] + pick[at + 1:], poly_scaled(product, -1 if at % 2 else 1)))
    return slant_from(slant.prime, slant.wide, slant.grade - 1, pairs)


def slant_led(slant, table):
    """The Slant that comes of leading each part, and the signs as unknowns are led."""
    check_slant(slant)
    check_table(table)
    if table.prime != slant.prime or table.tall != slant.wide or table.wide != slant.wide:
        raise BadTable("a square table of the Slant's prime and wide is wanted")
    pairs = []
    for pick, part in picks_in(slant):
        image = led(part, table)
        for other in picked(slant.wide, slant.grade):
            pairs.append((other, poly_scaled(image, corner(table, pick, other))))
    return slant_from(slant.prime, slant.wide, slant.grade, pairs)


def corner(table, pick, other):
    """The determinant of the lines of pick and the columns of other."""
    lines = [[table.lines[at][place] for place in other] for at in pick]
    return determinant(Table(table.prime, len(pick), len(pick), lines))
