"""Products of forms of mirrors that are tolled."""

from unswayed.counting import power_of
from unswayed.cycles import check_mild
from unswayed.mirrors import mirror_form, mirrors_of, walls_of
from unswayed.polys import constant, poly_power, poly_product
from unswayed.solving import determinant
from unswayed.tolls import check_toll, toll_of


def toll_form(house, toll):
    """The product of the forms of all walls, each to the power of the toll's step there."""
    check_mild(house)
    check_toll(house, toll)
    total = constant(house.prime, house.wide, 1)
    for form, _, _ in walls_of(house):
        mirrors = [table for table in mirrors_of(house) if mirror_form(table) == form]
        pairs = [(determinant(table), toll[house.tables.index(table)]) for table in mirrors]
        total = poly_product(total, poly_power(form, step_for(house.prime, pairs)))
    return total


def step_for(prime, pairs):
    """The least power of the first number of each pair that is the second one."""
    step = 0
    while any([power_of(number, step) % prime != value for number, value in pairs]):
        step += 1
    return step


def form_toll(house, toll):
    """The toll by which toll_form is tolled."""
    return toll_of(house, toll_form(house, toll))
