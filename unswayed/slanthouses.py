"""Slants that no table of a house changes."""

from unswayed.climbs import house_climb
from unswayed.counting import undone
from unswayed.cycles import check_mild, far_count, picked, plain_toll, row_for
from unswayed.echelons import tidy_zeros
from unswayed.errors import BadNumber, BadSlant, Swayed, TooMany
from unswayed.houses import check_house
from unswayed.kinds import is_within
from unswayed.packs import MOST_DEGREE, MOST_ROWS, row_count
from unswayed.polys import Poly, constant, layer_of
from unswayed.rowsfar import check_far_degree
from unswayed.slants import (
    Slant, check_slant, corner, drop_slant, picks_in, slant_from, slant_led, slant_scaled, slant_sum, slope_slant)


def check_house_slant(house, slant):
    """The errors of a House and a Slant of its prime and wide."""
    check_house(house)
    check_slant(slant)
    if slant.prime != house.prime or slant.wide != house.wide:
        raise BadSlant("a Slant of the house's prime and wide is wanted")


def is_unswayed_slant(house, slant):
    """Whether no table of the house changes the Slant."""
    check_house_slant(house, slant)
    return all([slant_led(slant, table) == slant for table in house.few])


def check_slant_grade(house, grade):
    """BadNumber("grade") unless grade is a number from 0 to wide."""
    if not is_within(grade, 0, house.wide):
        raise BadNumber("grade")


def slants_of(house, grade, degree):
    """The tidy list of level unswayed Slants of which each one of this grade and degree is told in just one way."""
    check_house(house)
    check_slant_grade(house, grade)
    if not is_within(degree, 0, MOST_DEGREE):
        raise BadNumber("degree")
    picks = picked(house.wide, grade)
    if len(picks) * row_count(house.wide, degree) > MOST_ROWS:
        raise TooMany(MOST_ROWS)
    climb = house_climb(house, degree)
    many = len(climb.rows)
    found = []
    for numbers in tidy_zeros(house.prime, len(picks) * many, slant_equations(house, climb, picks)):
        parts = [climb.poly(numbers[at * many:at * many + many]) for at in range(len(picks))]
        found.append(Slant(house.prime, house.wide, grade, parts))
    return found


def slant_equations(house, climb, picks):
    """The rows of numbers that lead just the unswayed Slants of the climb's degree to 0."""
    equations = []
    for table, images in zip(house.few, climb.images):
        for goal in range(len(picks)):
            factors = [corner(table, pick, picks[goal]) for pick in picks]
            for at in range(len(climb.rows)):
                column = [image[at] for image in images]
                equation = [factor * number for factor in factors for number in column]
                equation[goal * len(climb.rows) + at] -= 1
                equations.append(equation)
    return equations


def slant_mean(house, slant):
    """The sum of what all tables lead the Slant to, divided by the size."""
    check_house(house)
    check_slant(slant)
    check_mild(house)
    check_house_slant(house, slant)
    return mean_slant(house, slant)


def mean_slant(house, slant):
    """What slant_mean tells, for what is known to be right."""
    total = slant_scaled(slant, constant(house.prime, house.wide, 0))
    for table in house.tables:
        total = slant_sum(total, slant_led(slant, table))
    return slant_scaled(total, constant(house.prime, house.wide, undone(house.size, house.prime)))


def raised(house, slant):
    """An unswayed Slant of one grade more whose drop_slant is slant; None if there is none."""
    check_house(house)
    check_slant(slant)
    check_mild(house)
    check_house_slant(house, slant)
    if slant.grade == house.wide:
        raise BadSlant("a Slant of a grade below wide is wanted")
    if not is_unswayed_slant(house, slant):
        raise Swayed("an unswayed Slant is wanted")
    total = slant_from(house.prime, house.wide, slant.grade + 1, [])
    for degree in degrees_in(slant):
        layer = Slant(slant.prime, slant.wide, slant.grade, [layer_of(part, degree) for part in slant.parts])
        total = slant_sum(total, layer_raised(house, layer, (degree + slant.grade) % house.prime))
    return total if drop_slant(total) == slant else None


def degrees_in(slant):
    """The ascending list of the degrees of the rows of all parts."""
    return sorted({sum(row): True for part in slant.parts for row in part.terms})


def layer_raised(house, layer, factor):
    """An unswayed Slant whose drop_slant is the level unswayed layer, if there is one.

    The drop of the slope of a layer whose own drop is 0 is factor times the layer.
    """
    if factor:
        return slant_scaled(slope_slant(layer), constant(house.prime, house.wide, undone(factor, house.prime)))
    return mean_slant(house, lifted(layer))


def lifted(slant):
    """A Slant, perhaps not an unswayed one, whose drop_slant is slant, if there is one.

    The first unknown of a term, among its exponents and its pick, is changed to a sign
    where it is an exponent alone; terms that have it as a sign are made along with these.
    """
    picks = picked(slant.wide, slant.grade + 1)
    sums = {pick: {} for pick in picks}
    for pick, part in picks_in(slant):
        for row, number in part.terms.items():
            spots = [spot for spot in range(slant.wide) if row[spot] or spot in pick]
            if spots and spots[0] not in pick:
                less = row[:spots[0]] + (row[spots[0]] - 1,) + row[spots[0] + 1:]
                sums[(spots[0],) + pick][less] = number
    parts = [Poly(slant.prime, slant.wide, sums[pick]) for pick in picks]
    return Slant(slant.prime, slant.wide, slant.grade + 1, parts)


def slant_row(house, grade):
    """The pair of the period and the tops that tells how many unswayed Slants of this grade there are."""
    check_mild(house)
    check_slant_grade(house, grade)
    return row_for(house, plain_toll(house), grade)


def slant_far(house, grade, degree):
    """How many independent level unswayed Slants of this grade and degree, however high it is, there are."""
    row = slant_row(house, grade)
    check_far_degree(degree)
    return far_count(house.wide, row, degree)
