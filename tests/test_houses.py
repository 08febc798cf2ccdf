"""Points [30] and [42], unswayed/houses.py."""

import unittest

from tests.tools import (
    NO_NUMBERS, NO_OBJECTS, ToolCase, all_houses, house, signed, slow_rank, some_poly, some_table, table, trivial)
from unswayed.degrees import count_of
from unswayed.houses import House, has_table, house_beside, house_led, is_mild, order_of
from unswayed.leadings import is_unswayed, led
from unswayed.polys import letter
from unswayed.solving import inverse
from unswayed.tables import Table, plain, times

SIZES = {
    "plain 2 1": 1, "minus 3 1": 2, "all 7 1": 6, "shear 3 2": 3, "signed 5 2": 8, "all 2 2": 6,
    "quaternions 3 2": 8, "special 3 2": 24, "all 3 2": 48, "scaled 13 2": 4, "exchanges 3 3": 6, "triangles 2 3": 8,
    "shear 3 3": 3, "three mirrors 3 3": 18, "signed 3 3": 48, "signed 97 3": 48, "round 97 2": 8, "shear 17 2": 17}


def invertible(prime, wide, seed):
    """A Table with an inverse."""
    while slow_rank(some_table(prime, wide, wide, seed).lines, prime) < wide:
        seed += 100
    return some_table(prime, wide, wide, seed)


def block(size, cycles):
    """The lines that lead each unknown of a cycle of each of these lengths to the next one."""
    lines = [[0] * size for _ in range(size)]
    start = 0
    for length in cycles:
        for k in range(length):
            lines[start + (k + 1) % length][start + k] = 1
        start += length
    for k in range(start, size):
        lines[k][k] = 1
    return lines


class HouseTest(ToolCase):
    def test_by_hand(self):
        one = house(5, [[4, 0], [0, 4]])
        self.assertEqual((one.prime, one.wide, one.size), (5, 2, 2))
        self.assertEqual([each.lines for each in one.tables], [((1, 0), (0, 1)), ((4, 0), (0, 4))])
        self.assertIsInstance(one.tables, tuple)
        self.assertIsInstance(one.tables[0], Table)
        self.assertEqual(House(prime=7, wide=3, tables=()).tables, (plain(7, 3),))

    def test_sizes(self):
        for name, size in SIZES.items():
            self.assertEqual(all_houses()[name].size, size, name)

    def test_closed_under_products(self):
        for name, one in all_houses().items():
            self.assertEqual(one.size, len(one.tables))
            lines = [each.lines for each in one.tables]
            self.assertEqual(lines, sorted(set(lines)), name)
            self.assertIn(plain(one.prime, one.wide), one.tables)
            for g in one.tables[:8]:
                for h in one.tables:
                    self.assertIn(times(g, h).lines, lines)

    def test_same_house_of_other_tables(self):
        for name, one in all_houses().items():
            again = House(one.prime, one.wide, list(one.tables) + list(one.tables[:2]))
            self.assertTrue(one == again, name)
            self.assertEqual(one.tables, House(one.prime, one.wide, one.tables[::-1]).tables)

    def test_equality(self):
        one = house(5, [[4, 0], [0, 4]])
        self.assertTrue(one != trivial(5, 2))
        self.assertFalse(one == house(7, [[6, 0], [0, 6]]))
        self.assertFalse(trivial(5, 2) == trivial(5, 3))
        self.assertFalse(trivial(5, 2) == trivial(7, 2))
        for thing in NO_OBJECTS + (one.tables, one.tables[0]):
            self.assertFalse(one == thing)

    def test_48_tables_and_more(self):
        self.assertEqual(signed(97).size, 48)
        self.assertEqual(house(97, [[pow(5, 2, 97)]]).size, 48)
        self.refused(("TooMany", 48), house, 97, [[5]])
        self.refused(("TooMany", 48), house, 53, [[1, 1], [0, 1]])
        self.assertEqual(house(47, [[1, 1], [0, 1]]).size, 47)
        self.refused(("TooMany", 48), house, 5, [[1, 1], [0, 1]], [[1, 0], [1, 1]])

    def test_wrong(self):
        one = plain(5, 2)
        for prime in (0, 1, 4, 98) + NO_NUMBERS:
            self.refused(("BadPrime",), House, prime, None, None)
        for wide in (0, 4, -1) + NO_NUMBERS:
            self.refused(("BadHouse", "wide"), House, 5, wide, None)
        for tables in (None, 1, "ab", {}, one, [one, None], [one, 1], [plain(7, 2)], [plain(5, 3)], [[[1, 0], [0, 1]]],
                       [table(5, [1, 2], [2, 4])], [Table(5, 3, 2, [[1, 0], [0, 1], [0, 0]])], [Table(5, 2, 3, [[1, 0, 0], [0, 1, 0]])], [one, plain(5, 1)]):
            self.refused(("BadHouse", "tables"), House, 5, 2, tables)
        self.refused(("BadHouse", "tables"), House, 97, 1, [table(97, [5]), table(97, [0])])

    def test_unchanged(self):
        tables = [table(5, [0, 1], [1, 0])]
        one = House(5, 2, tables)
        tables.append(None)
        self.assertEqual(one.size, 2)
        for call, args in ((is_mild, (one,)), (has_table, (one, plain(5, 2))), (order_of, (one.tables[0],)),
                           (house_led, (one, one.tables[0])), (house_beside, (one, trivial(5, 1)))):
            self.unchanged(call, *args)


class JudgedTest(ToolCase):
    def test_is_mild(self):
        for name, one in all_houses().items():
            self.assertIs(is_mild(house=one), one.size % one.prime != 0, name)
        self.assertFalse(is_mild(house(3, [[1, 1], [0, 1]])))
        self.assertTrue(is_mild(signed(5)))

    def test_has_table(self):
        one = house(5, [[4, 0], [0, 4]])
        for each in one.tables:
            self.assertIs(has_table(house=one, thing=Table(5, 2, 2, each.lines)), True)
        for thing in NO_OBJECTS + (one, plain(7, 2), plain(5, 3), table(5, [2, 0], [0, 2]), ((1, 0), (0, 1)),
                                   [[1, 0], [0, 1]]):
            self.assertIs(has_table(one, thing), False)

    def test_no_house(self):
        for thing in NO_OBJECTS + (plain(5, 2),):
            self.refused(("BadHouse", None), is_mild, thing)
            self.refused(("BadHouse", None), has_table, thing, None)
            self.refused(("BadHouse", None), house_led, thing, None)
            self.refused(("BadHouse", None), house_beside, thing, None)
            self.refused(("BadHouse", None), house_beside, thing, trivial(5, 1))
            self.refused(("BadHouse", None), house_beside, trivial(5, 1), thing)


class OrderTest(ToolCase):
    def test_second_way(self):
        for prime, wide in ((2, 1), (2, 3), (3, 2), (5, 2), (7, 1), (3, 3)):
            for seed in range(6):
                one = invertible(prime, wide, seed)
                power, steps = one, 1
                while power != plain(prime, wide):
                    power, steps = times(power, one), steps + 1
                self.assertEqual(order_of(one), steps)

    def test_by_hand(self):
        self.assertEqual(order_of(plain(5, 0)), 1)
        self.assertEqual(order_of(plain(5, 60)), 1)
        self.assertEqual(order_of(table=table(7, [3])), 6)
        self.assertEqual(order_of(table(97, [1, 1], [0, 1])), 97)
        self.assertEqual(order_of(Table(2, 60, 60, block(60, [4, 9, 5, 7]))), 1260)

    def test_10000_and_above(self):
        self.assertEqual(order_of(Table(3, 41, 41, block(41, [16, 25]))), 400)
        self.assertEqual(order_of(Table(2, 52, 52, block(52, [16, 27, 5]))), 2160)
        self.assertEqual(order_of(Table(97, 2, 2, [[0, 92], [1, 1]])), 9408)
        self.assertEqual(order_of(Table(5, 55, 55, block(55, [5, 7, 9, 31]))), 9765)
        self.refused(("TooMany", 10000), order_of, Table(2, 60, 60, block(60, [2, 3, 5, 7, 11, 13, 17])))
        self.refused(("TooMany", 10000), order_of, Table(5, 59, 59, block(59, [9, 11, 8, 13])))
        self.refused(("TooMany", 10000), order_of, Table(97, 3, 3, [[0, 0, 5], [1, 0, 1], [0, 1, 0]]))

    def test_close_to_10000(self):
        self.assertEqual(order_of(Table(2, 49, 49, block(49, [4, 9, 25, 11]))), 9900)
        self.refused(("TooMany", 10000), order_of, Table(2, 38, 38, block(38, [7, 11, 13, 2, 5])))
        self.refused(("TooMany", 10000), order_of, Table(2, 53, 53, block(53, [32, 9, 5, 7])))

    def test_wrong(self):
        for thing in NO_OBJECTS + (Table(5, 1, 2, [[1, 2]]), table(5, [0]), table(5, [1, 2], [2, 4])):
            self.refused(("BadTable",), order_of, thing)


class LedTest(ToolCase):
    def test_conjugates(self):
        for name, one in all_houses().items():
            t = invertible(one.prime, one.wide, 7)
            found = house_led(house=one, table=t)
            lines = sorted(times(times(t, g), inverse(t)).lines for g in one.tables)
            self.assertEqual([each.lines for each in found.tables], lines, name)
            self.assertEqual(house_led(found, inverse(t)), one)

    def test_unswayed_polys_are_led(self):
        for name, one in all_houses().items():
            t = invertible(one.prime, one.wide, 3)
            other = house_led(one, t)
            for seed in range(3):
                poly = some_poly(one.prime, one.wide, 4, seed, 3)
                self.assertEqual(is_unswayed(other, led(poly, inverse(t))), is_unswayed(one, poly), name)
            self.assertTrue(is_unswayed(other, led(letter(one.prime, one.wide, 0), plain(one.prime, one.wide))) ==
                            is_unswayed(one, led(letter(one.prime, one.wide, 0), t)))

    def test_wrong_tables(self):
        one = house(5, [[4, 0], [0, 4]])
        for thing in NO_OBJECTS + (plain(7, 2), plain(5, 3), table(5, [1, 2], [2, 4]), Table(5, 2, 3, [[1, 0, 0]] * 2),
                                   Table(5, 3, 2, [[1, 0], [0, 1], [0, 0]])):
            self.refused(("BadTable",), house_led, one, thing)
            self.refused(("BadTable",), house_led, trivial(5, 2), thing)


class BesideTest(ToolCase):
    def test_tables(self):
        one, other = house(5, [[4]]), house(5, [[0, 1], [1, 0]])
        both = house_beside(one=one, other=other)
        self.assertEqual((both.prime, both.wide, both.size), (5, 3, 4))
        lines = sorted(
            ((g.lines[0][0], 0, 0), (0,) + h.lines[0], (0,) + h.lines[1]) for g in one.tables for h in other.tables)
        self.assertEqual([each.lines for each in both.tables], lines)

    def test_counts(self):
        pairs = ((house(3, [[2]]), house(3, [[1, 1], [0, 1]])), (house(2, [[1, 1], [0, 1]]), trivial(2, 1)),
                 (house(5, [[4, 0], [0, 4]]), house(5, [[2]])), (house(7, [[3]]), house(7, [[6]])))
        for one, other in pairs:
            both = house_beside(one, other)
            self.assertEqual(both.size, one.size * other.size)
            for degree in range(7):
                many = sum(count_of(one, a) * count_of(other, degree - a) for a in range(degree + 1))
                self.assertEqual(count_of(both, degree), many)

    def test_wrong(self):
        self.refused(("BadHouse", "prime"), house_beside, trivial(5, 2), trivial(7, 2))
        self.refused(("BadHouse", "wide"), house_beside, trivial(5, 2), trivial(5, 2))
        self.refused(("BadHouse", "wide"), house_beside, signed(5), house(5, [[2]]))
        self.refused(("TooMany", 48), house_beside, house(7, [[0, 6], [1, 0]], [[0, 1], [1, 0]], [[3, 0], [0, 3]]),
                     house(7, [[3]]))
        self.assertEqual(house_beside(house(7, [[3]]), house(7, [[0, 6], [1, 0]], [[0, 1], [1, 0]])).size, 48)


if __name__ == "__main__":
    unittest.main()
