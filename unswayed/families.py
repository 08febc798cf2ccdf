"""Families of houses that words tell."""

from itertools import permutations
from math import factorial, gcd

from unswayed.counting import all_points, power_of
from unswayed.errors import BadFamily, TooMany
from unswayed.houses import MOST_TABLES, MOST_WIDE, House, order_of
from unswayed.kinds import is_number, is_prime, is_within
from unswayed.slopes import sign_of_sequence
from unswayed.tables import Table

LENGTHS = {"exchanges": 3, "even": 3, "turns": 3, "weights": 4, "wreath": 5, "round": 3, "twin": 3}


def is_family(thing):
    """Whether any value is a family word."""
    if not isinstance(thing, tuple) or len(thing) < 3 or not isinstance(thing[0], str):
        return False
    if LENGTHS.get(thing[0], 0) != len(thing) or not is_prime(thing[1]):
        return False
    if thing[0] in ("exchanges", "even"):
        return is_within(thing[2], 1, MOST_WIDE)
    if thing[0] == "turns":
        return is_turns(thing)
    if thing[0] == "weights":
        return is_weights(thing)
    if thing[0] == "wreath":
        return is_wreath(thing)
    return is_round(thing) if thing[0] == "round" else is_twin(thing)


def is_divisor(thing, number):
    """Whether a value is a number from 1 on that divides the number."""
    return is_number(thing) and thing >= 1 and number % thing == 0


def is_short_tuple(thing):
    """Whether a value is a tuple of 1 to 3 items."""
    return isinstance(thing, tuple) and 1 <= len(thing) <= MOST_WIDE


def is_turns(word):
    """Whether what follows the prime in a word of turns is right."""
    _, prime, orders = word
    return is_short_tuple(orders) and all([is_divisor(order, prime - 1) for order in orders])


def is_weights(word):
    """Whether what follows the prime in a word of weights is right."""
    _, prime, order, weights = word
    if not is_divisor(order, prime - 1) or not is_short_tuple(weights):
        return False
    return all([is_within(weight, 0, order - 1) for weight in weights])


def is_wreath(word):
    """Whether what follows the prime in a wreath word is right."""
    _, prime, wide, order, share = word
    return is_within(wide, 1, MOST_WIDE) and is_divisor(order, prime - 1) and is_divisor(share, order)


def is_round(word):
    """Whether what follows the prime in a round word is right."""
    _, prime, order = word
    return is_number(order) and order >= 3 and (is_divisor(order, prime - 1) or is_divisor(order, prime + 1))


def is_twin(word):
    """Whether what follows the prime in a twin word is right."""
    _, prime, order = word
    if prime == 2 or not is_number(order) or order < 2:
        return False
    return is_divisor(2 * order, prime - 1) or is_divisor(2 * order, prime + 1)


def family_size(word):
    """How many tables the house of a family word has."""
    if not is_family(word):
        raise BadFamily("a family word is wanted")
    size = size_of(word)
    if size > MOST_TABLES:
        raise TooMany(MOST_TABLES)
    return size


def size_of(word):
    """How many tables the house of a family word has, perhaps more than a House can have."""
    name = word[0]
    if name == "exchanges":
        return factorial(word[2])
    if name == "even":
        return (factorial(word[2]) + 1) // 2
    if name == "turns":
        size = 1
        for order in word[2]:
            size = size * order
        return size
    if name == "weights":
        common = word[2]
        for weight in word[3]:
            common = gcd(common, weight)
        return word[2] // common
    if name == "wreath":
        return power_of(word[3], word[2]) * factorial(word[2]) // word[4]
    return word[2] * (2 if name == "round" else 4)


def family_house(word):
    """The House of a family word."""
    family_size(word)
    name, prime = word[0], word[1]
    if name in ("exchanges", "even"):
        sequences = sequences_of(word[2], name == "even")
        return house_of(prime, word[2], [placed((1,) * word[2], sequence) for sequence in sequences])
    if name == "turns":
        wide = len(word[2])
        turns = [diagonal_at(root_of(prime, order), spot, wide) for spot, order in enumerate(word[2])]
        return house_of(prime, wide, turns)
    if name == "weights":
        root = root_of(prime, word[2])
        numbers = [power_of(root, weight) for weight in word[3]]
        return house_of(prime, len(numbers), [placed(numbers, list(range(len(numbers))))])
    if name == "wreath":
        return wreath_house(prime, word[2], word[3], word[4])
    return round_house(prime, word[2]) if name == "round" else twin_house(prime, word[2])


def house_of(prime, wide, lots):
    """The House that the tables with these lines make."""
    return House(prime, wide, [Table(prime, wide, wide, lines) for lines in lots])


def sequences_of(wide, even):
    """The sequences of the numbers below wide, all or the even ones."""
    return [spots for spots in permutations(range(wide)) if not even or sign_of_sequence(spots) == 1]


def placed(numbers, spots):
    """The lines that have in each line one number, at the spot told for this line, and 0 elsewhere."""
    return [[number if at == spot else 0 for at in range(len(numbers))] for number, spot in zip(numbers, spots)]


def diagonal_at(number, spot, wide):
    """The lines of the diagonal table with the number at one spot and 1 at the others."""
    return placed([number if at == spot else 1 for at in range(wide)], list(range(wide)))


def root_of(prime, order):
    """The least number whose least power from 1 on that is 1 has this exponent."""
    number = 1
    while order_of(Table(prime, 1, 1, [[number]])) != order:
        number += 1
    return number


def wreath_house(prime, wide, order, share):
    """The House of the tables with one number in each line and column, these and their product being certain roots."""
    roots = [number for number in range(1, prime) if power_of(number, order) % prime == 1]
    lots = [()]
    for _ in range(wide):
        lots = [lot + (number,) for lot in lots for number in roots]
    kept = []
    for lot in lots:
        product = 1
        for number in lot:
            product = product * number
        if power_of(product % prime, order // share) % prime == 1:
            kept.append(lot)
    return house_of(prime, wide, [placed(lot, spots) for lot in kept for spots in permutations(range(wide))])


def turn_for(prime, order):
    """The least number a from 0 on for which the table with the lines 0, -1 and 1, a has this order."""
    number = 0
    while order_of(Table(prime, 2, 2, [[0, -1], [1, number]])) != order:
        number += 1
    return number


def round_house(prime, order):
    """The House of a round word."""
    return house_of(prime, 2, [[[0, -1], [1, turn_for(prime, order)]], [[0, 1], [1, 0]]])


def twin_house(prime, order):
    """The House of a twin word."""
    turn = turn_for(prime, 2 * order)
    pairs = [(s, t) for s, t in all_points(prime, 2) if (s * s + turn * s * t + t * t + 1) % prime == 0]
    s, t = pairs[0]
    return house_of(prime, 2, [[[0, -1], [1, turn]], [[t, s + t * turn], [s, -t]]])
