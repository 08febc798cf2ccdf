"""Point [98], unswayed/families.py."""

import itertools
import unittest

from tests.tools import (
    NO_OBJECTS, ToolCase, house, slow_determinant, slow_order, slow_times, table, telling_of, trivial)
from unswayed.alone import alone_degrees
from unswayed.families import family_house, family_size, is_family
from unswayed.freelots import free_lot, is_free_lot
from unswayed.houses import House, is_mild
from unswayed.kinds import PRIMES
from unswayed.mirrors import is_mirrored

GOOD = (
    ("exchanges", 2, 1), ("exchanges", 97, 3), ("even", 3, 2), ("even", 5, 3), ("turns", 7, (3,)), ("turns", 7, (1, 2, 6)),
    ("turns", 2, (1, 1)), ("weights", 13, 4, (1, 3)), ("weights", 13, 12, (0,)), ("weights", 5, 1, (0, 0, 0)),
    ("wreath", 5, 3, 2, 1), ("wreath", 5, 2, 4, 4), ("wreath", 2, 1, 1, 1), ("round", 2, 3), ("round", 7, 3), ("round", 7, 8),
    ("round", 97, 96), ("round", 97, 49), ("twin", 3, 2), ("twin", 5, 2), ("twin", 97, 48), ("twin", 97, 49), ("twin", 13, 7))


def entries_of(each):
    """The pairs of column and number of what is not 0, line by line."""
    return [[(at, number) for at, number in enumerate(line) if number] for line in each.lines]


def monomial(prime, wide):
    """All tables with one number that is not 0 in each line and column."""
    found = []
    for spots in itertools.permutations(range(wide)):
        for numbers in itertools.product(range(1, prime), repeat=wide):
            lines = [[0] * wide for _ in range(wide)]
            for line, spot, number in zip(lines, spots, numbers):
                line[spot] = number
            found.append((table(prime, *lines), spots, numbers))
    return found


def is_even(spots):
    return slow_determinant([[int(at == spot) for at in range(len(spots))] for spot in spots]) == 1


def slow_tables(word):
    """All tables of the house of a word of exchanges, even, turns, weights or wreath."""
    name, prime = word[:2]
    if name in ("exchanges", "even"):
        return [each for each, spots, numbers in monomial(2, word[2]) if name == "exchanges" or is_even(spots)]
    if name == "turns":
        return [
            each for each, spots, numbers in monomial(prime, len(word[2]))
            if list(spots) == sorted(spots) and all(pow(n, e, prime) == 1 for n, e in zip(numbers, word[2]))]
    if name == "weights":
        roots = [z for z in range(1, prime) if slow_order(table(prime, [z])) == word[2]]
        return [
            table(prime, *[[pow(roots[0], w * k, prime) * int(i == j) for j in range(len(word[3]))] for i, w in enumerate(word[3])])
            for k in range(word[2])]
    wide, order, share = word[2:]
    found = []
    for each, _, numbers in monomial(prime, wide):
        product = 1
        for number in numbers:
            product *= number
        if all(pow(n, order, prime) == 1 for n in numbers) and pow(product, order // share, prime) == 1:
            found.append(each)
    return found


def some_words(prime):
    found = [(name, prime, wide) for name in ("exchanges", "even") for wide in (1, 2, 3)]
    orders = [d for d in range(1, prime) if (prime - 1) % d == 0]
    for order in orders:
        found += [("turns", prime, (order,)), ("turns", prime, (1, order)), ("turns", prime, (order, order, 1))]
        found += [("weights", prime, order, (order // 2,)), ("weights", prime, order, (1 % order, order - 1)),
                  ("weights", prime, order, (order // 2, 0, order // 3))]
        found += [("wreath", prime, wide, order, share)
                  for wide in (1, 2, 3) for share in range(1, order + 1) if order % share == 0]
    found += [("round", prime, order) for order in range(3, prime + 2) if (prime - 1) % order == 0 or (prime + 1) % order == 0]
    if prime > 2:
        found += [("twin", prime, order) for order in range(2, prime)
                  if (prime - 1) % (2 * order) == 0 or (prime + 1) % (2 * order) == 0]
    return found


class IsFamilyTest(ToolCase):
    def test_words(self):
        for word in GOOD:
            self.assertIs(is_family(word), True, word)
        self.assertIs(is_family(thing=("exchanges", 2, 1)), True)
        for prime in PRIMES:
            for word in some_words(prime):
                self.assertIs(is_family(word), True, word)

    def test_round_and_twin_orders(self):
        for prime in PRIMES:
            for order in range(-1, 110):
                for name, least, times in (("round", 3, 1), ("twin", 2, 2)):
                    fits = order >= least and ((prime - 1) % (times * order) == 0 or (prime + 1) % (times * order) == 0)
                    self.assertIs(is_family((name, prime, order)), fits and (name == "round" or prime > 2), (name, prime, order))

    def test_other_values(self):
        wrong = NO_OBJECTS + (
            ["exchanges", 2, 1], ("exchanges", 2), ("exchanges", 2, 1, 1), ("exchanges", 2, 0), ("exchanges", 2, 4),
            ("exchanges", 4, 1), ("exchanges", 101, 1), ("exchanges", 2, True), ("exchanges", True, 1), ("exchanges", 2.0, 1),
            ("exchange", 2, 1), ("Exchanges", 2, 1), (b"exchanges", 2, 1), (1, 2, 1), (None, 2, 1), ("even", 3, 4), ("even", 3, None),
            ("turns", 7, [3]), ("turns", 7, 3), ("turns", 7, ()), ("turns", 7, (1, 1, 1, 1)), ("turns", 7, (4,)), ("turns", 7, (0,)),
            ("turns", 7, (-3,)), ("turns", 7, (True,)), ("turns", 7, (3, None)), ("turns", 9, (1,)), ("turns", 7, (12,)),
            ("weights", 13, 4, [1]), ("weights", 13, 4, ()), ("weights", 13, 4, (4,)), ("weights", 13, 4, (-1,)),
            ("weights", 13, 5, (1,)), ("weights", 13, 0, (0,)), ("weights", 13, True, (0,)), ("weights", 13, 4, (True,)),
            ("weights", 13, 4, (1, 1, 1, 1)), ("weights", 13, 4), ("weights", 13, (4,), (1,)), ("weights", 13, -4, (0,)),
            ("wreath", 5, 3, 2), ("wreath", 5, 0, 2, 1), ("wreath", 5, 4, 2, 1), ("wreath", 5, 2, 3, 1), ("wreath", 5, 2, 4, 3),
            ("wreath", 5, 2, 2, 4), ("wreath", 5, 2, 2, 0), ("wreath", 5, 2, 2, True), ("wreath", 5, 2, True, 1), ("wreath", 5, 2, 2, -1),
            ("round", 5, 2), ("round", 5, 1), ("round", 5, 5), ("round", 5, (4,)), ("round", 5, None), ("round", 5, -4), ("round", 5, 4.0),
            ("twin", 2, 2), ("twin", 5, 1), ("twin", 5, 4), ("twin", 5, True), ("twin", 5, "2"), ("twin", 5, 2, 2), ("twin", 97, 97),
            (("exchanges", 2, 1),), "exchanges", ("exchanges",), ({}, 2, 1), ([], 2, 1), ("turns", None, (1,)), ("twin", 5, 0),
            ("round", 5, 0), ("even", 1, 1), ("turns", 7, ((3,),)))
        for thing in wrong:
            self.assertIs(is_family(thing), False, thing)
            for call in (family_size, family_house):
                self.refused(("BadFamily",), call, thing)


class FamilyTest(ToolCase):
    def test_second_way(self):
        for prime in (2, 3, 5, 7):
            for word in some_words(prime):
                if word[0] in ("round", "twin"):
                    continue
                tables = slow_tables(word)
                lines = sorted({each.lines for each in tables})
                if len(lines) > 48:
                    self.refused(("TooMany", 48), family_size, word)
                    self.refused(("TooMany", 48), family_house, word)
                    continue
                found = self.unchanged(family_house, word)
                self.assertEqual([each.lines for each in found.tables], lines, word)
                self.assertEqual(found.prime, prime)
                self.assertEqual(family_size(word), len(lines), word)

    def test_sizes(self):
        seen = 0
        for prime in PRIMES:
            for word in some_words(prime):
                told = telling_of(family_size, word)
                if told is None:
                    seen += 1
                    if seen % 3 == 0:
                        found = family_house(word)
                        self.assertEqual((found.size, found.prime), (family_size(word), prime), word)
                else:
                    self.assertEqual(told, ("TooMany", 48))
        self.assertGreater(seen, 1000)

    def test_round_and_twin_houses(self):
        seen = {-1: 0, 1: 0}
        for prime in PRIMES[:14]:
            for word in some_words(prime):
                if word[0] not in ("round", "twin") or (2 if word[0] == "round" else 4) * word[2] > 48:
                    continue
                order = word[2] * (1 if word[0] == "round" else 2)
                seen[1 if (prime - 1) % order == 0 else -1] += 1
                a = [a for a in range(prime) if slow_order(table(prime, [0, prime - 1], [1, a])) == order][0]
                turn = table(prime, [0, prime - 1], [1, a])
                other = table(prime, [0, 1], [1, 0])
                if word[0] == "twin":
                    s, t = [(s, t) for s in range(prime) for t in range(prime) if (s * s + a * s * t + t * t + 1) % prime == 0][0]
                    other = table(prime, [t, s + t * a], [s, -t])
                found = self.unchanged(family_house, word)
                self.assertEqual(found, House(prime, 2, [turn, other]), word)
                self.assertEqual(found.size, (2 if word[0] == "round" else 4) * word[2], word)
                self.assertEqual(family_size(word), found.size)
                if word[0] == "twin":
                    self.assertEqual(slow_times(other, other), table(prime, [prime - 1, 0], [0, prime - 1]))
        self.assertTrue(seen[1] > 10 and seen[-1] > 10, seen)

    def test_more_than_48_tables(self):
        for word in (("turns", 97, (48,)), ("weights", 97, 48, (1, 5)), ("weights", 97, 96, (2,)), ("round", 97, 24),
                     ("twin", 97, 12), ("wreath", 5, 3, 2, 1), ("wreath", 97, 2, 24, 24), ("weights", 97, 96, (2, 4, 6)),
                     ("turns", 13, (4, 12, 1)), ("turns", 97, (4, 4, 3)), ("wreath", 97, 1, 48, 1), ("twin", 23, 12), ("round", 47, 24)):
            self.assertEqual(family_size(word), 48, word)
            found = family_house(word)
            self.assertEqual(found.size, 48, word)
            self.assertEqual(len(found.tables), 48)
        for word in (("turns", 97, (96,)), ("turns", 7, (3, 3, 6)), ("weights", 97, 96, (1,)), ("weights", 97, 96, (2, 3)),
                     ("round", 97, 48), ("round", 97, 49), ("twin", 97, 16), ("twin", 97, 48), ("wreath", 5, 3, 4, 4),
                     ("wreath", 97, 2, 48, 48), ("wreath", 97, 3, 96, 96), ("round", 89, 45), ("twin", 53, 13)):
            for call in (family_size, family_house):
                self.refused(("TooMany", 48), call, word)
        self.assertEqual(family_size(word=("weights", 97, 96, (48, 0))), 2)
        self.assertEqual(family_house(word=("weights", 97, 96, (0,))), trivial(97, 1))

    def test_by_hand(self):
        found = family_house(("twin", 3, 2))
        self.assertEqual(found, house(3, [[0, 2], [1, 0]], [[1, 1], [1, 2]]))
        self.assertEqual(found.size, 8)
        self.assertEqual([family_size(("exchanges", 5, wide)) for wide in (1, 2, 3)], [1, 2, 6])
        self.assertEqual([family_size(("even", 5, wide)) for wide in (1, 2, 3)], [1, 1, 3])
        self.assertEqual(family_house(("even", 5, 2)), trivial(5, 2))
        self.assertIs(is_mild(family_house(("exchanges", 2, 2))), False)
        self.assertIs(is_mild(family_house(("round", 2, 3))), False)
        self.assertIs(is_mild(family_house(("wreath", 3, 3, 2, 1))), False)
        self.assertEqual(family_house(("turns", 7, (6,))), house(7, [[3]]))
        self.assertEqual(family_house(("round", 5, 4)), house(5, [[0, 4], [1, 0]], [[0, 1], [1, 0]]))
        for prime in (5, 7):
            for word in some_words(prime):
                if telling_of(family_size, word) is None and word[0] in ("exchanges", "turns", "wreath", "round"):
                    one = family_house(word)
                    self.assertIs(is_mirrored(one), True, word)
                    self.assertIsNotNone(alone_degrees(one), word)
                    self.assertIs(is_free_lot(one, free_lot(one)), True)


if __name__ == "__main__":
    unittest.main()
