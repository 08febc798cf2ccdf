"""Free lots and others of the houses that family words tell."""

from math import lcm

from unswayed.cycles import far_count, gathered, lessened, picked
from unswayed.degrees import unswayed_of
from unswayed.families import family_house, family_size, turn_for
from unswayed.leadings import check_house_poly, lot_product
from unswayed.lotwork import check_layers, told_by_lot
from unswayed.others import check_unswayed
from unswayed.polys import Poly, check_poly, constant, letter, poly_power, poly_product, poly_sum
from unswayed.rowsfar import check_far_degree
from unswayed.slopes import slope_determinant


def family_lot(word):
    """The free lot of the house of a family word that the word's name tells."""
    family_size(word)
    name, prime = word[0], word[1]
    if name == "exchanges" or (name == "even" and word[2] == 3):
        return pick_sums(prime, word[2], 1)
    if name == "even":
        return powers_of(prime, (1,) * word[2])
    if name == "turns":
        return powers_of(prime, word[2])
    if name == "weights":
        return powers_of(prime, weight_orders(word))
    if name == "wreath":
        whole = (word[3] // word[4],) * word[2]
        return pick_sums(prime, word[2], word[3])[:-1] + [row_poly(prime, whole)]
    return round_lot(word) if name == "round" else twin_lot(word)


def row_poly(prime, row):
    """The Poly of one row, with 1."""
    return Poly(prime, len(row), {row: 1})


def powers_of(prime, exponents):
    """The list that has each unknown to the power of its exponent."""
    wide = len(exponents)
    return [poly_power(letter(prime, wide, spot), exponent) for spot, exponent in enumerate(exponents)]


def pick_sums(prime, wide, step):
    """For k from 1 to wide the sum of all products of k unlike unknowns, each to the power step."""
    sums = []
    for many in range(1, wide + 1):
        rows = [tuple([step if spot in pick else 0 for spot in range(wide)]) for pick in picked(wide, many)]
        sums.append(Poly(prime, wide, {row: 1 for row in rows}))
    return sums


def weight_orders(word):
    """For each unknown its least power from 1 on that the house of a word of weights leaves as it is."""
    _, _, order, weights = word
    return [lcm(order, weight) // weight if weight else 1 for weight in weights]


def kept_form(word):
    """The Poly of degree 2 that the turns of a round or twin word leave as it is."""
    _, prime, order = word
    turn = turn_for(prime, order if word[0] == "round" else 2 * order)
    return Poly(prime, 2, {(2, 0): 1, (1, 1): turn, (0, 2): 1})


def round_lot(word):
    """The free lot of a round word."""
    both = poly_sum(letter(word[1], 2, 0), letter(word[1], 2, 1))
    return [kept_form(word), lot_product(family_house(word), both)]


def twin_lot(word):
    """The free lot of a twin word."""
    form = kept_form(word)
    power = poly_power(form, word[2])
    # A tidy Poly has 1 at its least row, as this power has, so it is a number times the power only if it is the power.
    others = [poly for poly in unswayed_of(family_house(word), 2 * word[2]) if poly != power]
    return [poly_product(form, form), others[0]]


def family_others(word):
    """The others for family_lot that the word's name tells."""
    family_size(word)
    name, prime = word[0], word[1]
    if name == "weights":
        # TooMany(120) for a sum above 120 is that of the Poly.
        return [row_poly(prime, row) for row in weight_rows(word)]
    if name == "even" and word[2] == 3:
        return [constant(prime, 3, 1), Poly(prime, 3, {(2, 1, 0): 1, (0, 2, 1): 1, (1, 0, 2): 1})]
    if name == "twin":
        form = kept_form(word)
        slopes = slope_determinant([form, twin_lot(word)[1]])
        return [constant(prime, 2, 1), poly_product(form, slopes)]
    if name == "turns":
        return [constant(prime, len(word[2]), 1)]
    return [constant(prime, 2 if name == "round" else word[2], 1)]


def weight_rows(word):
    """The rows of the others of a word of weights, by degrees, then ascending."""
    _, _, order, weights = word
    rows = [((), 0)]
    for many, weight in zip(weight_orders(word), weights):
        rows = [(row + (at,), total + at * weight) for row, total in rows for at in range(many)]
    kept = [row for row, total in rows if total % order == 0]
    return [row for _, row in sorted([(sum(row), row) for row in kept])]


def other_degrees(word):
    """The degrees of family_others, of whatever height."""
    if word[0] == "weights":
        return [sum(row) for row in weight_rows(word)]
    return [poly.degree for poly in family_others(word)]


def family_count(word, degree):
    """How many independent level unswayed Polys of this degree, however high, the house of a family word has."""
    degrees = [poly.degree for poly in family_lot(word)]
    check_far_degree(degree)
    period = 1
    for one in degrees:
        period = lcm(period, one)
    several = other_degrees(word)
    tops = [several.count(at) for at in range(max(several) + 1)]
    # One factor of the lot may stand so often that its degrees sum up to the period; what is left over is in tops.
    for one in degrees:
        tops = gathered(lessened(tops, period), one)
    return far_count(len(degrees), (period, tops), degree)


def family_told(word, poly):
    """The list of Polys in the lot's unknowns, one for each of family_others, that tell poly."""
    check_poly(poly)
    house = family_house(word)
    check_house_poly(house, poly)
    check_unswayed(house, poly)
    check_layers(poly)
    return told_by_lot(family_lot(word), family_others(word), poly)
