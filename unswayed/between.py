"""The inner houses that have all tables of a given one: what is told of them all tells what is so of it alone."""

from unswayed.inner import inner_houses, lines_of


def signs_between(house, inner):
    """The pairs of a number that is not 0 and an inner house of house that has all tables of inner.

    What is so of inner alone is the sum of the numbers times what is so of each of the
    inner houses and of those that have all its tables, taken together. inner stands first.
    """
    return signs_among(inner_houses(house), inner)


def signs_among(houses, inner):
    """What signs_between tells, the inner houses of house being given, those of fewer tables first."""
    found = []
    for one in houses:
        lines = {key: True for key in lines_of(one)}
        if has_all(lines, inner):
            # Houses of fewer tables come first, so that all that stand between are known.
            below = sum([number for number, other in found if has_all(lines, other)])
            found.append(((0 if found else 1) - below, one))
    return [(number, one) for number, one in found if number]


def has_all(lines, house):
    """Whether all tables that make a house have their lines among these."""
    return all([table.lines in lines for table in house.few])
