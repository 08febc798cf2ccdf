"""Common factors of level polynomials."""

from unswayed.echelons import Echelon
from unswayed.slopes import divided


def have_common_factor(levels, things):
    """Whether some level polynomials, pairs of numbers and degree, have a common factor of degree 1 or above."""
    common, degree = things[0]
    for numbers, other in things[1:]:
        if degree == 0:
            return False
        common, degree = common_factor_of(levels, common, degree, numbers, other)
    return degree > 0


def common_factor_of(levels, one, first, two, second):
    """The numbers and the degree of the greatest common factor of two level polynomials of these degrees."""
    if unlike_factor(levels, one, first, two, second, 1) is None:
        return [1], 0
    for degree in range(min(first, second), 0, -1):
        numbers = unlike_factor(levels, one, first, two, second, degree)
        if numbers is not None:
            factor = levels.poly(numbers, second - degree)
            common = divided(levels.poly(two, second), factor)
            return levels.numbers_of(common, degree), degree
    return [1], 0


def unlike_factor(levels, one, first, two, second, degree):
    """A polynomial whose product with one is a multiple of two, of a degree lower by this than that of two."""
    above = first + second - degree
    rows = levels.multiples(levels.pack(one, first), first, above)
    many = len(rows)
    rows = rows + levels.multiples(levels.pack(two, second), second, above)
    wide = len(levels.rows_at(above))
    echelon = Echelon(levels.prime, wide + many)
    # Only the multiples of one are marked: those of two are independent, so that some mark is left.
    for at, row in enumerate(rows):
        marks = [1 if place == at else 0 for place in range(many)]
        left = echelon.rest(row + marks)
        if not any(left[:wide]):
            return left[wide:]
        echelon.put(row + marks)
    return None
