"""Point [130], unswayed/changes.py."""

import itertools
import random
import unittest

from tests.tools import (
    NO_OBJECTS, ToolCase, all_points, drawn_table, house, letters, many_houses, signed, slow_determinant, slow_order, slow_rank,
    slow_times, slow_undone, small_houses, some_points, table, trivial)
from unswayed.changes import change, factors_with_inverse, is_change, sign_of, signs_of, unlike_count, what_parts
from unswayed.degrees import count_of, unswayed_of
from unswayed.houses import House, house_led
from unswayed.inner import inner_houses, keeper
from unswayed.leadings import is_unswayed, led, moved, orbit_of
from unswayed.ownpolys import kept_number, own_degree
from unswayed.placed import kept_points
from unswayed.polys import Poly
from unswayed.solving import inverse
from unswayed.tables import Table, across, plain, times

SIGNED = house(5, [[0, 1], [1, 0]], [[4, 0], [0, 1]])
H = house(5, [[4, 0], [0, 4]])
LINES = [[1, 0, 1], [0, 1, 0], [0, 0, 1]], [[1, 0, 0], [0, 1, 1], [0, 0, 1]]
COLUMNS = [[1, 1, 0], [0, 1, 0], [0, 0, 1]], [[1, 0, 1], [0, 1, 0], [0, 0, 1]]
UNLIKE = (
    (house(5, [[1, 0, 1], [0, 1, 0], [0, 0, 1]], [[2, 4, 0], [0, 1, 4], [0, 0, 4]]),
     house(5, [[1, 0, 1], [0, 1, 0], [0, 0, 1]], [[2, 2, 0], [0, 4, 2], [0, 0, 1]])),
    (house(7, [[1, 0, 0], [0, 1, 1], [0, 0, 1]], [[1, 0, 0], [0, 3, 0], [0, 0, 2]]),
     house(7, [[1, 0, 1], [0, 1, 0], [0, 0, 1]], [[3, 0, 0], [0, 2, 5], [0, 0, 1]])))


def lines_of(one):
    return tuple(each.lines for each in one.tables)


def all_tables(prime, wide):
    """All tables with an inverse."""
    lines = all_points(prime, wide)
    found = []
    for lot in itertools.product(lines, repeat=wide):
        if slow_determinant(list(lot)) % prime:
            found.append(Table(prime, wide, wide, lot))
    return found


def is_slow_change(one, other, t):
    back = slow_undone(t) if slow_order(t) > 1 else t
    return {slow_times(slow_times(t, g), back).lines for g in one.tables} == set(lines_of(other))


def slow_sign(each):
    """Order, rank and the numbers of the determinant, read off from what is at many numbers T at once."""
    size, prime = each.tall, each.prime
    less = [[x - int(at == k) for k, x in enumerate(line)] for at, line in enumerate(each.lines)]
    numbers = [0] * (size + 1)
    # Along all picks of the diagonal that are T.
    for pick in itertools.product((0, 1), repeat=size):
        rest = [at for at in range(size) if not pick[at]]
        minor = [[-each.lines[a][b] for b in rest] for a in rest]
        numbers[sum(pick)] += slow_determinant(minor)
    return slow_order(each), slow_rank(less, prime), tuple(number % prime for number in numbers)


class SignTest(ToolCase):
    def test_many_tables(self):
        for name, one in many_houses().items():
            for each in one.tables[:6] + one.tables[-2:]:
                found = self.unchanged(sign_of, each)
                self.assertEqual(found, slow_sign(each), name)
                self.assertIsInstance(found, tuple)
                self.assertIsInstance(found[2], tuple)
                self.assertEqual(len(found[2]), one.wide + 1)
                self.assertEqual(found[2][-1], 1)
                g = drawn_table(one.prime, one.wide, name + "sign")
                self.assertEqual(sign_of(times(times(g, each), inverse(g))), found, name)

    def test_by_hand(self):
        self.assertEqual(sign_of(table=plain(5, 2)), (1, 0, (1, 3, 1)))
        self.assertEqual(sign_of(table(5, [0, 1], [1, 0])), (2, 1, (4, 0, 1)))
        self.assertEqual(sign_of(table(5, [1, 1], [0, 1])), (5, 1, (1, 3, 1)))
        self.assertEqual(sign_of(table(7, [3])), (6, 1, (4, 1)))

    def test_orders_up_to_10000_and_above(self):
        # In 2 unknowns over 97 the orders are up to 9408, in 3 up to 912672.
        one = next(each for each in (table(97, [0, -1 * k], [1, a]) for k in range(1, 97) for a in range(97)) if order(each) == 9408)
        self.assertEqual(sign_of(one), (9408, 2, (-one.lines[0][1] % 97, -one.lines[1][1] % 97, 1)))
        above = table(97, [0, 0, 5], [1, 0, 0], [0, 1, 1])
        edge = table(23, [0, 0, -9], [1, 0, 1], [0, 1, 0])
        for each in (above, edge, table(31, [0, 0, 3], [1, 0, 1], [0, 1, 0])):
            many = order(each, 10001)
            if many > 10000:
                self.refused(("TooMany", 10000), sign_of, each)
            else:
                self.assertEqual(sign_of(each)[0], many)
        self.assertGreater(order(above, 10001), 10000)

    def test_wrong_inputs(self):
        for thing in NO_OBJECTS + (H,):
            self.refused(("BadTable",), sign_of, thing)
        wrong = (
            Table(5, 2, 3, [[1, 0, 0], [0, 1, 0]]), Table(5, 0, 0, []), plain(5, 4), table(5, [1, 1], [1, 1]), table(5, [0]),
            Table(5, 3, 2, [[1, 0], [0, 1], [0, 0]]), plain(97, 60))
        for each in wrong:
            self.refused(("BadTable",), sign_of, each)

    def test_signs_of_houses(self):
        for name, one in many_houses().items():
            if one.size <= 24:
                found = self.unchanged(signs_of, one)
                signs = [slow_sign(each) for each in one.tables]
                self.assertEqual(list(found.items()), [(sign, signs.count(sign)) for sign in sorted(set(signs))], name)
        self.assertEqual(sum(signs_of(house=signed(97)).values()), 48)
        for thing in NO_OBJECTS + (plain(5, 2),):
            self.refused(("BadHouse", None), signs_of, thing)


def order(each, most=10 ** 5):
    """The least number of factors that give plain; more than most where it is more."""
    power, many = each, 1
    lines = plain(each.prime, each.wide).lines
    while power.lines != lines and many <= most:
        power, many = slow_times(power, each), many + 1
    return many


class ChangeTest(ToolCase):
    def test_other_coordinates(self):
        for name, one in many_houses().items():
            g = drawn_table(one.prime, one.wide, name + "change")
            other = house_led(one, g)
            found = self.unchanged(change, one, other)
            self.assertIsInstance(found, Table)
            self.assertTrue(is_slow_change(one, other, found) or one.size > 24, name)
            self.assertIs(is_change(one, other, found), True, name)
            self.assertIs(is_change(one, other, g), True, name)
            self.assertIs(is_change(other, one, inverse(found)), True, name)
            self.assertIs(is_change(one, one, times(inverse(g), found)), True, name)
            self.assertIsNone(what_parts(one, other), name)
            self.assertIs(is_change(one, one, change(one, one)), True)

    def test_by_trying_all(self):
        for prime, wide in ((2, 2), (3, 2), (5, 1), (2, 3)):
            tables = all_tables(prime, wide)
            houses = [one for one in many_houses().values() if (one.prime, one.wide) == (prime, wide)]
            houses += [inner for one in houses if one.size <= 24 for inner in inner_houses(one)]
            unlike = []
            for one in houses:
                if one not in unlike:
                    unlike.append(one)
            for one, other in itertools.product(unlike[:14], unlike[:14]):
                alike = one.size == other.size and any(is_slow_change(one, other, t) for t in tables)
                found = change(one, other)
                self.assertEqual(found is not None, alike)
                self.assertTrue(found is None or is_slow_change(one, other, found))

    def test_what_stays(self):
        for name in ("signed 5 2", "shear 3 2", "cycle 2 3", "quaternions 3 2", "triangles 2 3", "scaled 13 2"):
            one = many_houses()[name]
            other = house_led(one, drawn_table(one.prime, one.wide, name + "stays"))
            t = change(one, other)
            back = inverse(t)
            for degree in range(1, 4):
                for poly in unswayed_of(one, degree) + [Poly(one.prime, one.wide, {(degree,) + (0,) * (one.wide - 1): 1})]:
                    self.assertEqual(is_unswayed(other, led(poly, back)), is_unswayed(one, poly))
                    self.assertEqual(keeper(other, led(poly, back)), house_led(keeper(one, poly), t))
            for point in some_points(one, name, 3):
                self.assertEqual(orbit_of(other, moved(t, point)), sorted(moved(t, each) for each in orbit_of(one, point)))
            led_there = [house_led(inner, t) for inner in inner_houses(one)]
            self.assertEqual(sorted(map(lines_of, led_there)), sorted(map(lines_of, inner_houses(other))))
            for inner in inner_houses(one)[:5]:
                there = house_led(inner, t)
                self.assertEqual(kept_number(other, there, 2), kept_number(one, inner, 2))
                self.assertEqual(kept_points(other, there, 3), kept_points(one, inner, 3))
                self.assertEqual(own_degree(other, there), own_degree(one, inner))

    def test_48_tables(self):
        for prime in (3, 5, 97):
            one = signed(prime)
            other = house_led(one, drawn_table(prime, 3, "large"))
            found = change(one=one, other=other)
            self.assertEqual(house_led(one, found), other)
        self.assertIsNone(change(signed(5), house(5, [[2, 0, 0], [0, 2, 0], [0, 0, 2]])))

    def test_none(self):
        pairs = UNLIKE + (
            (house(5, *LINES), house(5, *COLUMNS)), (house(3, *LINES), house(3, *COLUMNS)), (house(2, *LINES), house(2, *COLUMNS)),
            (H, house(5, [[4, 0], [0, 1]])), (H, SIGNED), (trivial(5, 2), H))
        for one, other in pairs:
            self.assertIsNone(change(one, other))
            self.assertIsNone(change(other, one))
            for t in (plain(one.prime, one.wide), drawn_table(one.prime, one.wide, "none")):
                self.assertIs(is_change(one, other, t), False)


class FactorsTest(ToolCase):
    def test_by_trying_all(self):
        """Whether some sum of multiples of a few tables has an inverse, over small fields, where many have none."""
        chance = random.Random("factors")
        seen = []
        for _ in range(400):
            prime, size, many = chance.choice((2, 2, 3, 3, 5)), chance.choice((2, 3)), chance.randrange(4)
            spots = [chance.sample(range(size * size), chance.randrange(1, size * size)) for _ in range(many)]
            rows = [[chance.randrange(prime) if at in lot else 0 for at in range(size * size)] for lot in spots]
            found = factors_with_inverse(prime, size, rows)
            dets = {}
            for factors in itertools.product(range(prime), repeat=many):
                numbers = [sum(f * n for f, n in zip(factors, column)) for column in zip(*rows)] or [0] * size * size
                dets[factors] = slow_determinant([numbers[at * size:(at + 1) * size] for at in range(size)]) % prime
            self.assertEqual(found is None, not any(dets.values()))
            self.assertTrue(found is None or dets[tuple(found)])
            seen.append(found is None)
        self.assertTrue(50 < sum(seen) < 350)
        # Not 0 as a polynomial, but at all points: a * b * (a + b) over 2.
        rows = [[1, 0, 0, 0, 0, 0, 0, 0, 1], [0, 0, 0, 0, 1, 0, 0, 0, 1]]
        self.assertIsNone(factors_with_inverse(2, 3, rows))
        self.assertIsNotNone(factors_with_inverse(3, 3, rows))
        # a * b * (a + b) + c * c * c over 2: where c is 0 it is 0 everywhere.
        rows.append([0, 1, 0, 0, 0, 1, 1, 0, 0])
        for lot in itertools.permutations(rows):
            found = factors_with_inverse(2, 3, list(lot))
            numbers = [sum(f * n for f, n in zip(found, column)) for column in zip(*lot)]
            self.assertEqual(slow_determinant([numbers[:3], numbers[3:6], numbers[6:]]) % 2, 1)


class IsChangeTest(ToolCase):
    def test_any_value(self):
        one = SIGNED
        for thing in (plain(5, 2), table(5, [2, 0], [0, 2]), table(5, [1, 1], [1, 4]), table(5, [0, 1], [1, 0])):
            self.assertIs(self.unchanged(is_change, one, one, thing), True)
        wrong = NO_OBJECTS + (
            table(5, [1, 1], [0, 1]), table(5, [2, 0], [0, 1]), table(5, [0, 0], [0, 0]), plain(3, 2), plain(5, 3), plain(5, 1),
            Table(5, 2, 3, [[1, 0, 0], [0, 1, 0]]), ((1, 0), (0, 1)), [plain(5, 2)], one, letters(5, 2)[0], table(5, [1, 1], [1, 1]))
        for thing in wrong:
            self.assertIs(is_change(one, one, thing), False)
        self.assertIs(is_change(one=one, other=one, thing=plain(5, 2)), True)
        a = small_houses()["shear 3 2"]
        others = [many_houses()[name] for name in ("shear 3 2", "quaternions 3 2", "drawn shear 3 2")]
        for t in all_tables(3, 2):
            for b in others:
                self.assertIs(is_change(a, b, t), a.size == b.size and is_slow_change(a, b, t))


class WhatPartsTest(ToolCase):
    def test_sizes(self):
        self.assertEqual(what_parts(one=H, other=SIGNED), ("size", 2, 8))
        self.assertEqual(what_parts(SIGNED, trivial(5, 2)), ("size", 8, 1))

    def test_signs(self):
        self.assertEqual(what_parts(H, house(5, [[4, 0], [0, 1]])), ("sign", (2, 1, (4, 0, 1)), 0, 1))
        self.assertEqual(what_parts(house(5, [[4, 0], [0, 1]]), H), ("sign", (2, 1, (4, 0, 1)), 1, 0))
        one, other = house(7, [[2, 0], [0, 2]]), house(7, [[2, 0], [0, 4]])
        self.assertEqual(what_parts(one, other), ("sign", (3, 2, (1, 1, 1)), 0, 2))
        four, cyclic = house(5, [[4, 0], [0, 1]], [[1, 0], [0, 4]]), house(5, [[2, 0], [0, 3]])
        self.assertEqual(what_parts(four, cyclic), ("sign", (2, 1, (4, 0, 1)), 2, 0))
        for name, one in many_houses().items():
            for more, other in many_houses().items():
                if (one.prime, one.wide, one.size) == (other.prime, other.wide, other.size) and one.size <= 24:
                    told = what_parts(one, other)
                    signs = [slow_sign(each) for each in one.tables], [slow_sign(each) for each in other.tables]
                    apart = [s for s in sorted(set(signs[0] + signs[1])) if signs[0].count(s) != signs[1].count(s)]
                    # Mild houses of the same signs have the same counts.
                    self.assertFalse(one.size % one.prime and told and told[0] == "degree")
                    if apart:
                        self.assertEqual(told, ("sign", apart[0], signs[0].count(apart[0]), signs[1].count(apart[0])))
                    else:
                        self.assertEqual(told is None, change(one, other) is not None, (name, more))

    def test_degrees(self):
        for prime in (2, 3, 5):
            one, other = house(prime, *LINES), house(prime, *COLUMNS)
            self.assertEqual(self.unchanged(what_parts, one, other), ("degree", 1, 1, 2))
            self.assertEqual(what_parts(other, one), ("degree", 1, 2, 1))
            self.assertEqual([count_of(each, 1) for each in (one, other)], [1, 2])
        one = house(7, [[1, 1], [0, 1]], [[3, 0], [0, 2]])
        other = House(7, 2, [across(each) for each in one.tables])
        self.assertEqual(what_parts(one, other), ("degree", 3, 1, 0))
        self.assertEqual([[count_of(each, d) for d in (1, 2, 3)] for each in (one, other)], [[0, 0, 1], [0, 0, 0]])

        one = house(7, [[1, 1, 0], [0, 1, 0], [0, 0, 1]], [[3, 0, 0], [0, 6, 0], [0, 0, 5]])
        other = house(7, [[1, 1, 0], [0, 1, 0], [0, 0, 1]], [[6, 0, 0], [0, 3, 0], [0, 0, 5]])
        self.assertEqual((one.size, what_parts(one, other)), (42, ("degree", 4, 2, 1)))
        self.assertEqual([[count_of(each, d) for d in range(1, 5)] for each in (one, other)], [[0, 1, 0, 2], [0, 1, 0, 1]])
        # Degrees from 1 to 6 are looked at, no others.
        self.assertEqual(unlike_count(house(13, [[4]]), house(13, [[2]])), (6, 1, 0))
        self.assertEqual([house(29, [[k]]).size for k in (16, 4)], [7, 14])
        self.assertIsNone(unlike_count(house(29, [[16]]), house(29, [[4]])))
        self.assertEqual(unlike_count(trivial(5, 2), H), (1, 2, 0))

    def test_changes(self):
        for one, other in UNLIKE:
            self.assertEqual(what_parts(one, other), ("change",))
            self.assertEqual(what_parts(other, one), ("change",))
            self.assertEqual(signs_of(one), signs_of(other))
            self.assertEqual([count_of(one, d) for d in range(7)], [count_of(other, d) for d in range(7)])
            # What a change would leave as it is, is not the same.
            self.assertNotEqual(spans(one), spans(other))


def spans(one):
    """For each number how freely the tables whose orders divide it lead points and forms to themselves, and the orbits."""
    found = []
    for number in range(1, 50):
        gaps = [
            [[x - int(at == k) for k, x in enumerate(line)] for at, line in enumerate(each.lines)]
            for each in one.tables if number % slow_order(each) == 0]
        lines = [line for gap in gaps for line in gap]
        columns = [list(column) for gap in gaps for column in zip(*gap)]
        found.append((slow_rank(lines, one.prime), slow_rank(columns, one.prime)))
    return found, sorted(len(orbit_of(one, point)) for point in all_points(one.prime, one.wide))


if __name__ == "__main__":
    unittest.main()
