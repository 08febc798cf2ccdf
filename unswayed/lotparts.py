"""Polynomials that one house leaves as they are and another one does not."""

from unswayed.climbs import house_climb
from unswayed.freelots import is_level_unswayed
from unswayed.inner import check_houses, is_inner
from unswayed.leadings import is_unswayed
from unswayed.partings import climb_on, dot


def lot_parting(one, other):
    """A level Poly, of the least degree, that one leaves as it is and other does not; None if there is none."""
    if is_inner(one, other):
        return None
    climb = house_climb(one, 0)
    swayed = house_climb(other, 0)
    # There is one of a degree at most the size of one.
    while True:
        climb_on(climb)
        swayed.up()
        equations = swayed.equations()
        for numbers in climb.unswayed():
            if any([dot(equation, numbers) % one.prime for equation in equations]):
                return climb.poly(numbers)


def is_lot_parting(one, other, thing):
    """Whether any value is a level Poly that one leaves as it is and other does not."""
    check_houses(one, other)
    return is_level_unswayed(one, thing) and not is_unswayed(other, thing)
