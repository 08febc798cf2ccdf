"""The numbers by which tables stretch points, as powers of roots of 1, and the rows that they tell.

What a mild house leaves alone is counted in whole numbers, not only modulo the prime:
each table counts with the numbers by which it stretches points, and these are read as
powers of a root of 1. Which root is read for which does not matter, since the mean
over all choices is taken.
"""

from itertools import combinations
from math import comb

from unswayed.counting import power_of
from unswayed.errors import NoMean
from unswayed.farwork import far_many, far_plain, far_plus, far_times
from unswayed.houses import is_mild, order_of
from unswayed.solving import determinant
from unswayed.tables import Table
from unswayed.twisted import exponent
from unswayed.widefields import WideField


def check_mild(house):
    """The errors of a House that must be mild."""
    if not is_mild(house):
        raise NoMean("the prime divides the size of the house")


def stretch_poly(table):
    """The numbers of the determinant of T * plain - table, the one of the highest power of T first."""
    numbers = [1]
    for many in range(1, table.tall + 1):
        total = sum([part_determinant(table, pick) for pick in picked(table.tall, many)])
        numbers.append((total if many % 2 == 0 else -total) % table.prime)
    return numbers


def picked(size, many):
    """The ascending list of the ascending tuples of many unlike numbers from 0 to size - 1."""
    return list(combinations(range(size), many))


def part_determinant(table, pick):
    """The determinant of the table of the lines and columns that are picked."""
    lines = [[table.lines[at][place] for place in pick] for at in pick]
    return determinant(Table(table.prime, len(pick), len(pick), lines))


def root_powers(prime, order):
    """The field and the list of the powers, from 0 to order - 1, of a far number whose order this is."""
    degree = 1
    while (power_of(prime, degree) - 1) % order:
        degree += 1
    field = WideField(prime, degree)
    many = power_of(prime, degree)
    at = 1
    while True:
        digits = tuple([at // power_of(prime, place) % prime for place in range(degree)])
        root = far_many(digits, (many - 1) // order, field.modulus, prime)
        powers = [far_plain(1, degree)]
        for _ in range(order - 1):
            powers.append(far_times(powers[-1], root, field.modulus, prime))
        # With a lesser order 1 would come up again among the powers.
        if powers.count(powers[0]) == 1:
            return field, powers
        at += 1


def spins_of(table, number):
    """The order of a table, and as powers of a root of that order its stretching numbers and the number."""
    order = order_of(table)
    field, powers = root_powers(table.prime, order)
    left = [far_plain(value, field.degree) for value in stretch_poly(table)]
    spins = []
    for at, power in enumerate(powers):
        while len(left) > 1:
            parts = divided_by_root(field, left, power)
            if any(parts[-1]):
                break
            spins.append(at)
            left = parts[:-1]
    return order, tuple(spins), powers.index(far_plain(number, field.degree))


def divided_by_root(field, numbers, root):
    """What comes of dividing a polynomial in T, highest power first, by T less the root; the rest last."""
    parts = [numbers[0]]
    for number in numbers[1:]:
        parts.append(far_plus(number, far_times(parts[-1], root, field.modulus, field.prime), field.prime))
    return parts


def root_sum(order, number):
    """The sum of the powers, number times each, of all roots of 1 of just this order."""
    total = order if number % order == 0 else 0
    return total - sum([root_sum(part, number) for part in range(1, order) if order % part == 0])


def tops_of(house, toll, grade):
    """The tops that tell how many level Slants of this grade the tables change by the toll's numbers alone.

    The Slants of grade 0 are the Polys; the toll of numbers 1 tells the unswayed ones.
    """
    period = exponent(house)
    kinds = {}
    for table, number in zip(house.tables, toll):
        kind = (tuple(stretch_poly(table)), number)
        kinds.setdefault(kind, []).append(table)
    total = [[0] * period for _ in range(house.wide * (period - 1) + 1)]
    for (_, number), tables in kinds.items():
        order, spins, back = spins_of(tables[0], number)
        step = period // order
        start = [0] * period
        for pick in picked(house.wide, grade):
            start[(sum([spins[at] for at in pick]) - back) * step % period] += len(tables)
        for line, more in zip(total, stretched(start, [spin * step for spin in spins], period)):
            for at, number_there in enumerate(more):
                line[at] += number_there
    means = [root_sum(period, at) for at in range(period)]
    many = means[0] * house.size
    return without_zeros_behind([sum([x * y for x, y in zip(line, means)]) // many for line in total])


def stretched(start, spins, period):
    """The rows of start times, for each spin's root r, 1 + r * T + .. + (r * T) ** (period - 1), by powers of T."""
    rows = [start]
    for spin in spins:
        made = []
        last = [0] * period
        for at in range(len(rows) + period - 1):
            last = last[period - spin:] + last[:period - spin]
            if at < len(rows):
                last = [x + y for x, y in zip(last, rows[at])]
            if at >= period:
                last = [x - y for x, y in zip(last, rows[at - period])]
            made.append(last)
        rows = made
    return rows


def without_zeros_behind(numbers):
    """The tuple of the numbers up to the last one that is not 0."""
    many = len(numbers)
    while many and numbers[many - 1] == 0:
        many -= 1
    return tuple(numbers[:many])


def plain_toll(house):
    """The toll whose numbers are 1 alone."""
    return (1,) * house.size


def row_for(house, toll, grade):
    """The pair of the period of a house and the tops that tops_of tells."""
    return exponent(house), tops_of(house, toll, grade)


def far_count(wide, row, degree):
    """The number that a row tells of a degree, however high."""
    period, tops = row
    total = 0
    for at, number in enumerate(tops):
        if at <= degree and (degree - at) % period == 0:
            total += number * comb((degree - at) // period + wide - 1, wide - 1)
    return total


def lessened(numbers, degree):
    """The numbers, without end behind the last one 0, each less the one of degree places before."""
    return [x - y for x, y in zip(list(numbers) + [0] * degree, [0] * degree + list(numbers))]


def gathered(numbers, degree):
    """The numbers that, lessened by degree, are these; None if infinitely many of them are not 0."""
    found = []
    for at, number in enumerate(numbers):
        found.append(number + (found[at - degree] if at >= degree else 0))
    if any(found[len(numbers) - min(degree, len(numbers)):]):
        return None
    return found


def lessened_row(wide, row, degrees):
    """What the numbers that a row tells become if they are lessened by each of the degrees; None if without end."""
    period, tops = row
    numbers = list(tops)
    for degree in degrees:
        numbers = lessened(numbers, degree)
    for _ in range(wide):
        numbers = gathered(numbers, period)
        if numbers is None:
            return None
    return without_zeros_behind(numbers)
