"""Polynomials as packs: dicts from packed rows of exponents to numbers.

A row is packed into one number, seven bits for each exponent, the first one
highest. Exponents stay below 128, as degrees stay below 121, so the packed row
of a product is the sum of the packed rows, and packed rows ascend as rows do.
"""

from math import comb

from unswayed.errors import TooMany

MOST_DEGREE = 120
MOST_ROWS = 300


def pack_row(row):
    """The packed form of a row of exponents."""
    whole = 0
    for exponent in row:
        whole = (whole << 7) | exponent
    return whole


def unpack_row(whole, wide):
    """The row of wide exponents that is packed in whole."""
    return tuple([(whole >> (7 * (wide - 1 - spot))) & 127 for spot in range(wide)])


def pack_of(terms):
    """The pack of a dict from rows to numbers."""
    return {pack_row(row): terms[row] for row in terms}


def terms_of(pack, wide):
    """The dict from rows to numbers of a pack."""
    return {unpack_row(whole, wide): pack[whole] for whole in pack}


def pack_sum(one, other, prime):
    """The sum of two packs."""
    total = {whole: one[whole] for whole in one}
    for whole in other:
        total[whole] = total.get(whole, 0) + other[whole]
    return without_zeros(total, prime)


def pack_product(one, other, prime):
    """The product of two packs."""
    few, many = (one, other) if len(one) < len(other) else (other, one)
    total = {}
    for more, factor in few.items():
        for whole, number in many.items():
            key = whole + more
            total[key] = total.get(key, 0) + number * factor
    return without_zeros(total, prime)


def without_zeros(pack, prime):
    """The pack with its numbers modulo prime, and what is 0 then left out."""
    return {whole: number % prime for whole, number in pack.items() if number % prime}


def pack_power(one, times, prime):
    """The product of so many factors one."""
    # The power with prime as times only multiplies the exponents: no number of the field changes by it.
    total = {0: 1}
    factor = one
    left = times
    while left > 0:
        for _ in range(left % prime):
            total = pack_product(total, factor, prime)
        left = left // prime
        if left > 0:
            factor = {whole * prime: number for whole, number in factor.items()}
    return total


def pack_put(terms, others, prime):
    """What comes of the dict of rows when the packs others are put in for its unknowns."""
    last = len(others) - 1
    powers = pack_powers(others[last], sorted({row[last]: True for row in terms}), prime)
    return put_from(terms, others, 0, powers, prime)


def pack_powers(one, exponents, prime):
    """The dict from each of the ascending exponents to the power of a pack."""
    powers = {}
    power = {0: 1}
    below = 0
    for exponent in exponents:
        power = pack_product(power, pack_power(one, exponent - below, prime), prime)
        powers[exponent] = power
        below = exponent
    return powers


def put_from(terms, others, spot, powers, prime):
    """What comes of the dict of rows when the packs from spot on are put in for the unknowns from spot on.

    All rows of terms have the same exponents before spot; powers are those of the last pack.
    """
    if spot == len(others) - 1:
        return sum_of_multiples([(powers[row[spot]], number) for row, number in terms.items()], prime)
    parts = {}
    for row, number in terms.items():
        parts.setdefault(row[spot], {})[row] = number
    total = {}
    above = 0
    for exponent in sorted(parts, reverse=True):
        total = pack_product(total, pack_power(others[spot], above - exponent, prime), prime) if total else {}
        total = pack_sum(total, put_from(parts[exponent], others, spot + 1, powers, prime), prime)
        above = exponent
    return pack_product(total, pack_power(others[spot], above, prime), prime)


def sum_of_multiples(pairs, prime):
    """The sum of some packs, each times a number."""
    total = {}
    for pack, factor in pairs:
        for whole, number in pack.items():
            total[whole] = total.get(whole, 0) + number * factor
    return without_zeros(total, prime)


def row_count(wide, degree):
    """How many rows of wide exponents have the sum degree."""
    return comb(degree + wide - 1, wide - 1)


def level_rows(wide, degree):
    """The ascending list of all rows of wide exponents with the sum degree."""
    if wide == 1:
        return [(degree,)]
    return [(first,) + row for first in range(degree + 1) for row in level_rows(wide - 1, degree - first)]


def check_rows(wide, degree):
    """TooMany(300) if there are more than 300 rows of this degree."""
    if row_count(wide, degree) > MOST_ROWS:
        raise TooMany(MOST_ROWS)
