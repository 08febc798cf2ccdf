"""Means of polynomials over a mild house."""

from unswayed.counting import undone
from unswayed.errors import NoMean
from unswayed.houses import is_mild
from unswayed.leadings import check_house_poly, led
from unswayed.polys import poly_scaled, poly_sum


def mean(house, poly):
    """The sum of what all tables lead poly to, times the number that undoes the size."""
    check_house_poly(house, poly)
    if not is_mild(house):
        raise NoMean("the prime divides the size of the house")
    total = poly_scaled(poly, 0)
    for table in house.tables:
        total = poly_sum(total, led(poly, table))
    return poly_scaled(total, undone(house.size, house.prime))
