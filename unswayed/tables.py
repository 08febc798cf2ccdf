"""Tables over a prime field."""

from unswayed.errors import BadNumber, BadTable
from unswayed.kinds import are_numbers, check_prime, is_list, is_number, is_within

MOST_LINES = 60


class Table:
    """A table of numbers modulo a prime: it leads columns of wide numbers to columns of tall numbers."""

    def __init__(self, prime, tall, wide, lines):
        check_prime(prime)
        if not (is_within(tall, 0, MOST_LINES) and is_within(wide, 0, MOST_LINES)):
            raise BadTable("a table has from 0 to 60 lines and columns")
        if not are_lines(lines, tall, wide):
            raise BadTable("the lines are no list of tall lists of wide whole numbers")
        self.prime = prime
        self.tall = tall
        self.wide = wide
        self.lines = tuple([tuple([number % prime for number in line]) for line in lines])

    def __eq__(self, other):
        return (isinstance(other, Table) and self.prime == other.prime and self.tall == other.tall
                and self.wide == other.wide and self.lines == other.lines)


def are_lines(thing, tall, wide):
    """Whether a value is a list of tall lists of wide whole numbers."""
    return is_list(thing) and len(thing) == tall and all([are_numbers(line, wide) for line in thing])


def check_table(thing):
    """BadTable unless the value is a Table."""
    if not isinstance(thing, Table):
        raise BadTable("a Table is wanted")


def check_square(thing):
    """BadTable unless the value is a Table with as many lines as columns."""
    check_table(thing)
    if thing.tall != thing.wide:
        raise BadTable("a Table with as many lines as columns is wanted")


def lines_product(one, two, wide, prime):
    """The lines of the product of two tables, told by their lines; two has wide columns."""
    columns = [[line[place] for line in two] for place in range(wide)]
    return tuple([
        tuple([sum([x * y for x, y in zip(line, column)]) % prime for column in columns])
        for line in one])


def plain_lines(size):
    """The lines of the table with 1 on the diagonal and 0 elsewhere."""
    return tuple([(0,) * at + (1,) + (0,) * (size - at - 1) for at in range(size)])


def times(one, two):
    """The table that does what two and then one does."""
    check_table(one)
    check_table(two)
    if one.wide != two.tall or one.prime != two.prime:
        raise BadTable("the tables do not fit behind one another")
    lines = lines_product(one.lines, two.lines, two.wide, one.prime)
    return Table(one.prime, one.tall, two.wide, lines)


def plus(one, two):
    """The sum of two tables of the same size."""
    check_table(one)
    check_table(two)
    if (one.prime, one.tall, one.wide) != (two.prime, two.tall, two.wide):
        raise BadTable("the tables have unlike sizes or primes")
    lines = [[x + y for x, y in zip(line, other)] for line, other in zip(one.lines, two.lines)]
    return Table(one.prime, one.tall, one.wide, lines)


def scaled(one, number):
    """The table with each number multiplied by number."""
    check_table(one)
    if not is_number(number):
        raise BadNumber("number")
    return Table(one.prime, one.tall, one.wide, [[x * number for x in line] for line in one.lines])


def plain(prime, size):
    """The table that leads each column of size numbers to itself."""
    check_prime(prime)
    if not is_within(size, 0, MOST_LINES):
        raise BadNumber("size")
    return Table(prime, size, size, plain_lines(size))


def across(one):
    """The table with lines and columns exchanged."""
    check_table(one)
    lines = [[line[place] for line in one.lines] for place in range(one.wide)]
    return Table(one.prime, one.wide, one.tall, lines)


def trace(one):
    """The sum of the diagonal of a square table, modulo its prime."""
    check_square(one)
    return sum([line[at] for at, line in enumerate(one.lines)]) % one.prime
