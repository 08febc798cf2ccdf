"""Wide fields, their numbers and their points."""

from unswayed.counting import power_of
from unswayed.errors import BadNumber, BadPoint, BadPoly, BadTable
from unswayed.farwork import far_many, far_plain, far_plus, far_times, least_modulus
from unswayed.kinds import check_prime, is_list, is_within
from unswayed.polys import check_poly
from unswayed.tables import check_square

MOST_FIELD = 60


class WideField:
    """The field with prime ** degree numbers, made by the least modulus that has no factor."""

    def __init__(self, prime, degree):
        check_prime(prime)
        if not is_within(degree, 1, MOST_FIELD):
            raise BadNumber("degree")
        self.prime = prime
        self.degree = degree
        self.modulus = least_modulus(prime, degree)

    def __eq__(self, other):
        return isinstance(other, WideField) and self.prime == other.prime and self.degree == other.degree


def check_field(thing):
    """BadNumber("field") unless the value is a WideField."""
    if not isinstance(thing, WideField):
        raise BadNumber("field")


def is_far_number(thing, prime, degree):
    """Whether a value is a tuple of degree numbers from 0 to prime - 1."""
    return (isinstance(thing, tuple) and len(thing) == degree
            and all([is_within(number, 0, prime - 1) for number in thing]))


def check_far_number(field, thing, part):
    """BadNumber(part) unless the value is a far number of the field."""
    if not is_far_number(thing, field.prime, field.degree):
        raise BadNumber(part)


def check_far_point(point, wide, prime, degree):
    """BadPoint unless the value is a list of wide far numbers, one or more."""
    if not is_list(point) or len(point) != wide or wide < 1:
        raise BadPoint("a list of as many far numbers as there are unknowns is wanted")
    if not all([is_far_number(item, prime, degree) for item in point]):
        raise BadPoint("a list of far numbers of the field is wanted")


def far_sum(field, one, other):
    """The sum of two far numbers."""
    check_field(field)
    check_far_number(field, one, "one")
    check_far_number(field, other, "other")
    return far_plus(one, other, field.prime)


def far_product(field, one, other):
    """The product of two far numbers."""
    check_field(field)
    check_far_number(field, one, "one")
    check_far_number(field, other, "other")
    return far_times(one, other, field.modulus, field.prime)


def far_power(field, one, times):
    """The product of so many factors one."""
    check_field(field)
    check_far_number(field, one, "one")
    if not is_within(times, 0, 10 ** 40):
        raise BadNumber("times")
    return far_many(one, times, field.modulus, field.prime)


def far_undone(field, one):
    """The far number that times one is 1; None for 0."""
    check_field(field)
    check_far_number(field, one, "one")
    if not any(one):
        return None
    # All numbers of the field but 0 have 1 as their power with one less than the size of the field.
    return far_many(one, power_of(field.prime, field.degree) - 2, field.modulus, field.prime)


def far_value(field, poly, point):
    """The far number that comes of putting the far numbers of a point in."""
    check_field(field)
    check_poly(poly)
    if poly.prime != field.prime:
        raise BadPoly("the Poly and the field have unlike primes")
    check_far_point(point, poly.wide, field.prime, field.degree)
    terms = poly.terms
    powers = [
        far_powers(field, number, max([row[spot] for row in terms], default=0))
        for spot, number in enumerate(point)]
    total = far_plain(0, field.degree)
    for row, number in terms.items():
        part = far_plain(number, field.degree)
        for exponent, power in zip(row, powers):
            if exponent:
                part = far_times(part, power[exponent], field.modulus, field.prime)
        total = far_plus(total, part, field.prime)
    return total


def far_powers(field, one, most):
    """The powers of a far number up to the one with most as exponent."""
    powers = [far_plain(1, field.degree)]
    for _ in range(most):
        powers.append(far_times(powers[-1], one, field.modulus, field.prime))
    return powers


def far_moved(field, table, point):
    """The far point to which the table leads a far point."""
    check_field(field)
    check_square(table)
    if table.prime != field.prime:
        raise BadTable("the Table and the field have unlike primes")
    check_far_point(point, table.wide, field.prime, field.degree)
    return far_point_moved(table, point)


def far_point_moved(table, point):
    """The far point to which the table leads a list of one or more far numbers over a field of its prime."""
    columns = list(zip(*point))
    return tuple([
        tuple([sum([x * y for x, y in zip(line, column)]) % table.prime for column in columns])
        for line in table.lines])


def frobenius(field, point):
    """The tuple of the powers of the far numbers of a point, with the prime as times."""
    check_field(field)
    if not is_list(point):
        raise BadPoint("a list of one or more far numbers is wanted")
    check_far_point(point, len(point), field.prime, field.degree)
    return tuple([far_many(number, field.prime, field.modulus, field.prime) for number in point])
