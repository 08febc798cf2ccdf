"""The reduced form of tables, and what is solved with it."""

from unswayed.counting import undone
from unswayed.echelons import echelon_of
from unswayed.errors import BadTable
from unswayed.tables import Table, check_square, check_table, plain


def tidy(one):
    """The reduced form of a table by lines."""
    check_table(one)
    rows = [row for _, row in echelon_of(one.prime, one.wide, one.lines).reduced()]
    zeros = [[0] * one.wide for _ in range(one.tall - len(rows))]
    return Table(one.prime, one.tall, one.wide, rows + zeros)


def rank(one):
    """How many lines of the reduced form are not 0."""
    check_table(one)
    return len(echelon_of(one.prime, one.wide, one.lines).spots)


def kernel(one):
    """The table whose columns are what one leads to 0, one for each column of tidy without a leading 1."""
    check_table(one)
    pairs = echelon_of(one.prime, one.wide, one.lines).reduced()
    leading = {spot: row for spot, row in pairs}
    loose = [spot for spot in range(one.wide) if spot not in leading]
    lines = []
    for place in range(one.wide):
        if place in leading:
            lines.append([-leading[place][spot] for spot in loose])
        else:
            lines.append([1 if spot == place else 0 for spot in loose])
    return Table(one.prime, one.wide, len(loose), lines)


def solved(one, goal):
    """The table x with times(one, x) equal to goal and 0 where it is free; None if there is none."""
    check_table(one)
    check_table(goal)
    if one.tall != goal.tall or one.prime != goal.prime:
        raise BadTable("the tables have unlike primes or numbers of lines")
    beside = [line + more for line, more in zip(one.lines, goal.lines)]
    pairs = echelon_of(one.prime, one.wide + goal.wide, beside).reduced()
    lines = [[0] * goal.wide for _ in range(one.wide)]
    for spot, row in pairs:
        if spot >= one.wide:
            return None
        lines[spot] = row[one.wide:]
    return Table(one.prime, one.wide, goal.wide, lines)


def inverse(one):
    """The table that undoes one; None if there is none."""
    check_table(one)
    if one.tall != one.wide:
        return None
    return solved(one, plain(one.prime, one.tall))


def determinant(one):
    """The determinant of a square table, from 0 to prime - 1."""
    check_square(one)
    prime = one.prime
    lines = [list(line) for line in one.lines]
    total = 1
    while lines:
        found = [at for at, line in enumerate(lines) if line[0]]
        if not found:
            return 0
        first = lines.pop(found[0])
        # A line that is taken from below the first one changes the sign with each line that it passes.
        sign = -1 if found[0] & 1 else 1
        total = sign * total * first[0] % prime
        lines = [without_first(line, first, prime) for line in lines]
    return total


def without_first(line, first, prime):
    """The line less the multiple of first that has the same first number, without this number."""
    factor = line[0] * undone(first[0], prime)
    return [(x - factor * y) % prime for x, y in zip(line[1:], first[1:])]
