"""The row of a mild house, which tells its counts in all degrees."""

from unswayed.counting import power_of
from unswayed.cycles import check_mild, far_count, lessened, lessened_row, plain_toll, row_for, without_zeros_behind
from unswayed.errors import BadNumber, BadRow
from unswayed.houses import MOST_WIDE, check_house
from unswayed.kinds import is_list, is_number, is_within
from unswayed.packs import MOST_DEGREE


def row_of(house):
    """The pair of the period and the tops that tells all counts of the house."""
    check_mild(house)
    return row_for(house, plain_toll(house), 0)


def count_far(house, degree):
    """How many independent level unswayed Polys of this degree there are, however high it is."""
    check_mild(house)
    check_far_degree(degree)
    return far_count(house.wide, row_of(house), degree)


def check_far_degree(degree):
    """BadNumber("degree") unless degree is a number from 0 on."""
    if not is_number(degree) or degree < 0:
        raise BadNumber("degree")


def row_over(house, degrees):
    """What the counts become if they are lessened by each of the degrees; None if infinitely many are not 0."""
    check_mild(house)
    if not is_list(degrees) or len(degrees) != house.wide:
        raise BadNumber("degrees")
    if not all([is_within(degree, 1, MOST_DEGREE) for degree in degrees]):
        raise BadNumber("degrees")
    return lessened_row(house.wide, row_of(house), degrees)


def first_unlike(one, other):
    """The least degree in which two houses have unlike counts; None if there is none."""
    check_house(one)
    check_house(other)
    period, tops = row_of(one)
    other_period, other_tops = row_of(other)
    # Both are lessened by the periods of both: this changes neither whether they are equal nor where not first.
    left = list(tops)
    for _ in range(other.wide):
        left = lessened(left, other_period)
    right = list(other_tops)
    for _ in range(one.wide):
        right = lessened(right, period)
    many = max(len(left), len(right))
    pairs = list(zip(left + [0] * (many - len(left)), right + [0] * (many - len(right))))
    unlike = [at for at, (x, y) in enumerate(pairs) if x != y]
    return unlike[0] if unlike else None


def row_tells(wide, row):
    """The size of a house in wide unknowns with this row, and how many mirrors it has."""
    if not is_within(wide, 1, MOST_WIDE):
        raise BadNumber("wide")
    if not is_row(row):
        raise BadRow("a tuple of a period and a tuple of tops is wanted")
    period, tops = row
    total = sum(tops)
    twice = 2 * sum([at * number for at, number in enumerate(tops)])
    whole = power_of(period, wide)
    if total <= 0 or whole % total or twice % total:
        raise BadRow("the sum of the tops does not divide what it must")
    return whole // total, wide * (period - 1) - twice // total


def is_row(thing):
    """Whether a value is a tuple of two, a number from 1 on and a tuple of one or more numbers."""
    if not isinstance(thing, tuple) or len(thing) != 2:
        return False
    period, tops = thing
    if not is_number(period) or period < 1 or not isinstance(tops, tuple) or not tops:
        return False
    return all([is_number(number) for number in tops])


def turned_row(house):
    """The pair of the period and the tops that tells how many turned Polys there are."""
    period, tops = row_of(house)
    many = house.wide * (period - 1) + 1
    return period, without_zeros_behind((list(tops) + [0] * (many - len(tops)))[::-1])


def reads_same(house):
    """Whether the tops of the row of the house are the same from behind."""
    _, tops = row_of(house)
    return tops == tops[::-1]
