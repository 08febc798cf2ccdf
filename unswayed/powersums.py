"""Sums of powers of forms, and what unswayed polynomials are made of them."""

from math import comb

from unswayed.cycles import check_mild
from unswayed.degrees import count_of
from unswayed.echelons import Echelon
from unswayed.errors import BadNumber, BadPoly, LowPrime
from unswayed.forms import form_led, form_lot
from unswayed.houses import check_house
from unswayed.kinds import is_within, point_of
from unswayed.leadings import check_house_poly, form_poly
from unswayed.levels import told_in
from unswayed.makers import most_needed
from unswayed.needs import Needs
from unswayed.others import check_lot, check_unswayed
from unswayed.packs import MOST_DEGREE, check_rows, level_rows, pack_of, pack_product, pack_sum
from unswayed.polys import Poly, check_poly, is_level, poly_of_pack, power_row


def power_sum(house, form, times):
    """The sum, over all tables, of the Poly of the form led by the table, so many times as a factor."""
    check_house(house)
    start = point_of(form, house.wide, house.prime)
    if not is_within(times, 0, MOST_DEGREE):
        raise BadNumber("times")
    return sum_poly(house, start, times)


def sum_poly(house, form, times):
    """What power_sum tells, for what is known to be right."""
    rows = level_rows(house.wide, times)
    numbers = sum_numbers(house, form, rows, times)
    return Poly(house.prime, house.wide, {row: number for row, number in zip(rows, numbers)})


def sum_numbers(house, form, rows, times):
    """The numbers of a power sum at the rows, whose sum is times."""
    lot = form_lot(house, form)
    powers = [[power_row(number, times, house.prime) for number in member] for member in lot]
    # Each unlike member comes up for as many tables as any other one.
    often = house.size // len(lot)
    numbers = []
    for row in rows:
        ways = ways_of(row) * often % house.prime
        numbers.append(ways * power_total(powers, row) % house.prime if ways else 0)
    return numbers


def ways_of(row):
    """In how many sequences unknowns can be multiplied such that their product is the row."""
    ways = 1
    left = sum(row)
    for exponent in row:
        ways = ways * comb(left, exponent)
        left -= exponent
    return ways


def power_total(powers, row):
    """The sum, over all members, of the product of the powers of their numbers that the row tells."""
    total = 0
    for member in powers:
        part = 1
        for power, exponent in zip(member, row):
            part = part * power[exponent]
        total += part
    return total


def spread_of(house, form):
    """For k from 1 to size the sum, over all choices of k tables, of the products of the form led by them."""
    check_house(house)
    start = point_of(form, house.wide, house.prime)
    check_rows(house.wide, house.size)
    sums = [{0: 1}] + [{} for _ in house.tables]
    for at, table in enumerate(house.tables):
        pack = pack_of(form_poly(form_led(start, table), house.prime).terms)
        # From above down: each table must be chosen once at most.
        for many in range(at + 1, 0, -1):
            more = pack_product(sums[many - 1], pack, house.prime)
            sums[many] = pack_sum(sums[many], more, house.prime)
    return [poly_of_pack(house.prime, house.wide, pack) for pack in sums[1:]]


def as_power_sums(house, poly):
    """The pairs of a number and a form whose power sums, with the degree as times, sum up to a level poly."""
    check_house(house)
    check_poly(poly)
    check_mild(house)
    check_house_poly(house, poly)
    if not is_level(poly):
        raise BadPoly("a level Poly is wanted")
    check_unswayed(house, poly)
    if poly.degree >= house.prime:
        raise LowPrime("a prime above the degree is wanted")
    if poly.degree < 0:
        return []
    check_rows(house.wide, poly.degree)
    forms, vectors = independent_sums(house, poly.degree)
    terms = poly.terms
    goal = [terms.get(row, 0) for row in level_rows(house.wide, poly.degree)]
    told = told_in(house.prime, vectors, [goal])[0]
    return [(number, form) for number, form in zip(told, forms) if number]


def independent_sums(house, degree):
    """Forms, and the numbers of their power sums, of which all unswayed Polys of a degree below the prime are made."""
    # The powers of these forms make all level Polys: nothing but 0 has the number 0 at all of them as points.
    rows = level_rows(house.wide, degree)
    many = count_of(house, degree)
    echelon = Echelon(house.prime, len(rows))
    forms = []
    vectors = []
    for form in rows:
        if len(forms) < many:
            numbers = sum_numbers(house, form, rows, degree)
            if echelon.put(numbers):
                forms.append(form)
                vectors.append(numbers)
    return forms, vectors


def power_makers(house, lot):
    """The pairs of a form and a degree whose power sums are fewest makers, by degrees that do not fall."""
    check_lot(house, lot)
    if house.prime <= house.size:
        raise LowPrime("a prime above the size is wanted")
    needs = Needs(house)
    found = []
    while needs.degree < most_needed(house, lot):
        needs.up()
        if needs.lacking():
            forms = level_rows(house.wide, needs.degree)
            sums = [sum_poly(house, form, needs.degree) for form in forms]
            chosen = needs.chosen(sums)
            found = found + [(forms[sums.index(one)], needs.degree) for one in chosen]
    return found
