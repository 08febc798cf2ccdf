"""Rows of exponents whose unknowns have weights, and products of polynomials of such degrees."""

from unswayed.errors import TooMany
from unswayed.packs import MOST_ROWS


def row_counts(weights, most):
    """For each spot, and one behind, how many rows of the unknowns from it on have the weights 0 to most."""
    tables = [[1] + [0] * most]
    for weight in reversed(weights):
        counts = list(tables[0])
        for at in range(weight, most + 1):
            counts[at] += counts[at - weight]
        tables = [counts] + tables
    return tables


def check_weight(weights, weight):
    """TooMany(300) if there are more than 300 rows of this weight."""
    if row_counts(weights, weight)[0][weight] > MOST_ROWS:
        raise TooMany(MOST_ROWS)


def weighed_rows(weights, weight):
    """The ascending list of the rows of this weight, the sum of the exponents times weights."""
    tables = row_counts(weights, weight)
    found = [((), weight)]
    for one, counts in zip(weights, tables[1:]):
        # What no later unknowns can fill up is not gone on with.
        found = [
            (row + (at,), left - at * one)
            for row, left in found for at in range(left // one + 1) if counts[left - at * one]]
    return [row for row, _ in found]


def weight_of_row(weights, row):
    """The sum of the exponents of a row times weights."""
    return sum([weight * exponent for weight, exponent in zip(weights, row)])


def product_rows(levels, makers, degree):
    """The pairs of the rows of this weight and the numbers of the products of makers that they tell."""
    weights = [maker.degree for maker in makers]
    tables = row_counts(weights, degree)
    found = [((), degree, 1)]
    for maker, counts in zip(makers, tables[1:]):
        more = []
        for row, left, whole in found:
            more = more + powers_behind(levels, maker, counts, (row, left, whole, degree))
        found = more
    return [(row, levels.unpack(whole, degree)) for row, _, whole in found]


def powers_behind(levels, maker, counts, start):
    """The triples of row, weight left and product that come of one when powers of the next maker stand behind it."""
    row, left, whole, degree = start
    pack = levels.pack_of(maker) if maker.degree <= left else 0
    found = []
    power = whole
    for at in range(left // maker.degree + 1):
        rest = left - at * maker.degree
        if at:
            power = levels.product(power, pack, degree - rest)
        if counts[rest]:
            found.append((row + (at,), rest, power))
    return found
