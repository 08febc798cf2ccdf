"""Equations of makers: what hangs together among fewest makers of a house."""

from unswayed.cycles import far_count, plain_toll
from unswayed.echelons import Echelon
from unswayed.errors import BadEquations, BadMakers, TooMany
from unswayed.houses import check_house
from unswayed.kinds import is_list
from unswayed.levels import told_in
from unswayed.lotwork import counts_over
from unswayed.makers import are_fewest, check_dozen
from unswayed.packs import MOST_DEGREE, MOST_ROWS, row_count
from unswayed.polys import Poly, check_poly
from unswayed.putting import put_in
from unswayed.relations import Relations, moved_to
from unswayed.rowsfar import row_of
from unswayed.weighed import check_weight, row_counts, weight_of_row, weighed_rows


def check_related(house, lot, makers):
    """The errors of a mild House, a free lot of it and fewest makers, of whose equations all can be looked at."""
    if not are_fewest(house, lot, makers):
        raise BadMakers("fewest makers of the house are wanted")
    check_dozen(makers)
    most = most_weight(house, lot)
    counts = row_counts(weights_of(makers), most)[0]
    if max(counts) > MOST_ROWS or row_count(house.wide, most) > MOST_ROWS:
        raise TooMany(MOST_ROWS)


def most_weight(house, lot):
    """A weight above which no equation is needed."""
    return 2 * min(house.size, len(counts_over(house, lot, plain_toll(house))) - 1)


def weights_of(makers):
    """The weights of the makers' unknowns: the degrees."""
    return [maker.degree for maker in makers]


def equations_of(house, lot, makers):
    """As few weighed equations as can be that tell all, by weights that do not fall."""
    check_related(house, lot, makers)
    most = most_weight(house, lot)
    relations = Relations(house, makers, most)
    found = []
    while relations.weight < most:
        relations.up()
        if relations.lacking():
            made = relations.made.another()
            rows = relations.rows[relations.weight]
            new = [equation for equation in relations.equations() if made.put(equation)]
            found = found + [poly_at(house.prime, len(makers), rows, equation) for equation in new]
    return found


def poly_at(prime, many, rows, numbers):
    """The Poly in many unknowns that has the numbers at the rows."""
    return Poly(prime, many, {row: number for row, number in zip(rows, numbers)})


def are_equations(house, lot, makers, thing):
    """Whether any value is a list of weighed equations, none of a weight above 120, that tell all."""
    check_related(house, lot, makers)
    weights = weights_of(makers)
    if not is_list(thing) or not all([is_weighed(house, weights, item) for item in thing]):
        return False
    if not all([is_equation(makers, item) for item in thing]):
        return False
    most = most_weight(house, lot)
    relations = Relations(house, makers, most)
    while relations.weight < most:
        relations.up()
        made = relations.made.another()
        for item in thing:
            if weight_of(weights, item) == relations.weight:
                made.put(numbers_at(item, relations.rows[relations.weight]))
        if len(made.spots) < relations.many():
            return False
    return True


def is_weighed(house, weights, thing):
    """Whether any value is a weighed Poly in the makers' unknowns, of a weight of at most 120."""
    if not isinstance(thing, Poly) or thing.prime != house.prime or thing.wide != len(weights) or thing.degree < 0:
        return False
    found = [weight_of_row(weights, row) for row in thing.terms]
    return min(found) == max(found) <= MOST_DEGREE


def weight_of(weights, poly):
    """The weight of a weighed Poly."""
    return weight_of_row(weights, list(poly.terms)[0])


def is_equation(makers, poly):
    """Whether nothing is left of a Poly when makers are put in."""
    return put_in(poly, makers).degree < 0


def numbers_at(poly, rows):
    """The numbers of a Poly at the rows."""
    terms = poly.terms
    return [terms.get(row, 0) for row in rows]


def followed(house, lot, makers, several, poly):
    """The Polys whose products with several sum up to poly; None if poly is no equation."""
    check_house(house)
    check_poly(poly)
    if not are_equations(house, lot, makers, several):
        raise BadEquations("weighed equations that tell all are wanted")
    # BadPoly, and TooMany(120) for weights above 120, are those of put_in.
    if not is_equation(makers, poly):
        return None
    weights = weights_of(makers)
    found = sorted({weight_of_row(weights, row): True for row in poly.terms})
    for weight in found:
        check_weight(weights, weight)
    terms = [{} for _ in several]
    for weight in found:
        many = len(weighed_rows(weights, weight)) - far_count(house.wide, row_of(house), weight)
        for (at, row), number in factors_at(weights, several, poly, weight, many):
            terms[at][row] = number
    return [Poly(house.prime, len(makers), part) for part in terms]


def factors_at(weights, several, poly, weight, many):
    """The pairs of a name and a number: the multiples of products with several that make poly's part of this weight.

    The name is the index of the one of several, then the row by which it is multiplied. many
    is how many independent equations of this weight there are.
    """
    rows = weighed_rows(weights, weight)
    places = {row: at for at, row in enumerate(rows)}
    made = Echelon(poly.prime, len(rows))
    names = []
    vectors = []
    for at, item in enumerate(several):
        left = weight - weight_of(weights, item)
        for row in weighed_rows(weights, left) if left >= 0 else []:
            if len(made.spots) < many:
                steps = [places[tuple([x + y for x, y in zip(row, more)])] for more in item.terms]
                vector = moved_to(list(item.terms.values()), steps, len(rows))
                if made.put(vector):
                    names.append((at, row))
                    vectors.append(vector)
    told = told_in(poly.prime, vectors, [numbers_at(poly, rows)])[0]
    return list(zip(names, told))
