"""Houses and polynomials as texts."""

from unswayed.errors import BadText
from unswayed.figures import lines_of_text, lines_text, number_of, numbers_of, numbers_text
from unswayed.houses import MOST_TABLES, MOST_WIDE, House, check_house, is_house_table
from unswayed.kinds import PRIMES, is_prime
from unswayed.packs import MOST_DEGREE
from unswayed.polys import MOST_UNKNOWNS, Poly, check_poly
from unswayed.tables import Table, lines_product


def house_text(house):
    """The text of a house: its first line, then a line for each table."""
    check_house(house)
    lines = [lines_text(table) for table in house.tables]
    return "\n".join([f"house {house.prime} {house.wide}"] + lines)


def head_of(text, word, most):
    """The pair of the prime and the wide, from 1 to most, of a text of this first word; None if it has another form."""
    words = text.split(" ")
    if len(words) != 3 or words[0] != word:
        return None
    prime = number_of(words[1], 2, PRIMES[-1])
    wide = number_of(words[2], 1, most)
    return (prime, wide) if is_prime(prime) and wide is not None else None


def house_of_text(text):
    """The House with this text."""
    if not isinstance(text, str):
        raise BadText(0)
    lines = text.split("\n")
    head = head_of(lines[0], "house", MOST_WIDE)
    if head is None:
        raise BadText(0)
    prime, wide = head
    found = []
    for at, line in enumerate(lines[1:], start=1):
        table = lines_of_text(line, prime, wide)
        if table is None or (found and table <= found[-1]):
            raise BadText(at)
        found.append(table)
    tables = [Table(prime, wide, wide, table) for table in found[:MOST_TABLES + 1]]
    if not are_all_tables(tables, prime, wide):
        raise BadText(len(lines))
    return House(prime, wide, tables)


def are_all_tables(tables, prime, wide):
    """Whether some tables are all the tables of a house."""
    if not 1 <= len(tables) <= MOST_TABLES or not all([is_house_table(table, prime, wide) for table in tables]):
        return False
    known = {table.lines: True for table in tables}
    # Tables with inverses that are closed under products have plain, a product of many of one, among them.
    return all([
        lines_product(one.lines, two.lines, wide, prime) in known for one in tables for two in tables])


def poly_text(poly):
    """The text of a Poly: the prime, how many unknowns, then its terms."""
    check_poly(poly)
    terms = [f" : {number} {numbers_text(row)}" for row, number in poly.terms.items()]
    return "".join([f"poly {poly.prime} {poly.wide}"] + terms)


def poly_of_text(text):
    """The Poly with this text."""
    if not isinstance(text, str):
        raise BadText(0)
    parts = text.split(" : ")
    head = head_of(parts[0], "poly", MOST_UNKNOWNS)
    if head is None:
        raise BadText(0)
    prime, wide = head
    rows = [numbers_of(part, wide + 1, MOST_DEGREE) for part in parts[1:]]
    if not all([is_term_row(row, prime) for row in rows]):
        raise BadText(0)
    keys = [tuple(row[1:]) for row in rows]
    # Rows ascend, so that no two are the same.
    if any([one >= two for one, two in zip(keys, keys[1:])]):
        raise BadText(0)
    return Poly(prime, wide, {key: row[0] for key, row in zip(keys, rows)})


def is_term_row(row, prime):
    """Whether what was read is a number from 1 to prime - 1 and a row of exponents."""
    return row is not None and 1 <= row[0] < prime and sum(row[1:]) <= MOST_DEGREE
