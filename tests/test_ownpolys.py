"""Point [127], unswayed/ownpolys.py."""

import itertools
import unittest

from tests.tools import (
    NO_NUMBERS, NO_OBJECTS, ToolCase, all_rows, drawn_table, house, letters, many_houses, signed, slow_led, small_houses,
    trivial)
from unswayed.degrees import count_of
from unswayed.houses import house_led
from unswayed.inner import inner_classes, inner_houses, is_inner, keeper
from unswayed.leadings import led
from unswayed.ownpolys import kept_number, own_degree, own_poly
from unswayed.polys import Poly, constant
from unswayed.solving import inverse
from unswayed.tables import plain

SIGNED = house(5, [[0, 1], [1, 0]], [[4, 0], [0, 1]])
H = house(5, [[4, 0], [0, 4]])
SPECIAL = small_houses()["special 3 2"]
E24 = house(5, [[0, 1, 0], [1, 0, 0], [0, 0, 1]], [[0, 1, 0], [0, 0, 1], [1, 0, 0]], [[4, 0, 0], [0, 4, 0], [0, 0, 1]])


def mid_houses():
    return {name: one for name, one in many_houses().items() if one.size <= 24}


def slow_kept(one, degree):
    """For each lot of tables, how many Polys of at most this degree just these lead to themselves, by trying all."""
    rows = [row for at in range(degree + 1) for row in all_rows(one.wide, at)]
    images = []
    for each in one.tables:
        columns = []
        for row in rows:
            terms = slow_led(Poly(one.prime, one.wide, {row: 1}), each).terms
            columns.append([terms.get(other, 0) for other in rows])
        images.append(columns)
    counts = {}
    for numbers in itertools.product(range(one.prime), repeat=len(rows)):
        lot = tuple(
            each.lines for each, columns in zip(one.tables, images)
            if all(sum(n * column[at] for n, column in zip(numbers, columns)) % one.prime == numbers[at] for at in range(len(rows))))
        counts[lot] = counts.get(lot, 0) + 1
    return counts


class KeptNumberTest(ToolCase):
    def test_by_trying_all(self):
        cases = (
            ("minus 3 1", 4), ("all 7 1", 2), ("shear 2 2", 2), ("all 2 2", 2), ("shear 3 2", 1), ("quaternions 3 2", 1),
            ("special 3 2", 1), ("cycle 2 3", 1), ("triangles 2 3", 2), ("planes 2 3", 1), ("minus 5 2", 1), ("drawn all 2 2", 2),
            ("all 2 2", 3), ("drawn cycle 2 3", 1))
        houses = many_houses()
        for name, degree in cases:
            one = houses[name]
            counts = slow_kept(one, degree)
            for inner in inner_houses(one):
                lot = tuple(each.lines for each in inner.tables)
                self.assertEqual(self.unchanged(kept_number, one, inner, degree), counts.get(lot, 0), (name, degree))

    def test_sums_of_greater_houses(self):
        for name, one in mid_houses().items():
            if one.size <= 12 or name == "special 3 2":
                houses = inner_houses(one)
                for degree in (0, 3):
                    numbers = [kept_number(one, inner, degree) for inner in houses]
                    self.assertTrue(min(numbers) >= 0)
                    for inner in houses:
                        total = sum(number for number, other in zip(numbers, houses) if is_inner(other, inner))
                        self.assertEqual(total, one.prime ** sum(count_of(inner, at) for at in range(degree + 1)), name)

    def test_degrees_0_and_12(self):
        self.assertEqual(kept_number(house=SIGNED, inner=SIGNED, degree=0), 5)
        self.assertEqual(kept_number(SIGNED, H, 0), 0)
        for one in (SIGNED, SPECIAL, house(7, [[3]])):
            houses = inner_houses(one)
            numbers = [kept_number(one, inner, 12) for inner in houses]
            self.assertTrue(all(number > 0 for number in numbers))
            many = one.wide + 12
            rows = many if one.wide == 1 else (many * (many - 1)) // 2
            self.assertEqual(sum(numbers), one.prime ** rows)
        self.assertEqual(kept_number(SPECIAL, SPECIAL, 12), 3 ** sum(count_of(SPECIAL, at) for at in range(13)))

    def test_errors_in_their_sequence(self):
        for call, more in ((kept_number, (None,)), (own_degree, ()), (own_poly, ())):
            for thing in NO_OBJECTS + (plain(5, 2),):
                self.refused(("BadHouse", None), call, thing, H, *more)
                self.refused(("BadHouse", None), call, H, thing, *more)
            for other in (SIGNED, trivial(3, 2), trivial(5, 3), trivial(5, 1), house(5, [[2, 0], [0, 2]])):
                self.refused(("BadInner",), call, H, other, *more)
            self.refused(("BadInner",), call, signed(5), SIGNED, *more)
            self.refused(("BadInner",), call, signed(5), trivial(3, 3), *more)
        for degree in NO_NUMBERS + (-1, 13):
            self.refused(("BadNumber", "degree"), kept_number, SIGNED, H, degree)
            self.refused(("BadNumber", "degree"), kept_number, signed(5), trivial(5, 3), degree)
        for large in (signed(5), house(97, [[25]]), house(29, [[1, 1], [0, 1]])):
            for inner in (trivial(large.prime, large.wide), large):
                self.refused(("TooMany", 24), kept_number, large, inner, 0)
                self.refused(("TooMany", 24), own_degree, large, inner)
                self.refused(("TooMany", 24), own_poly, large, inner)


class OwnPolyTest(ToolCase):
    def test_many_houses(self):
        for name, one in mid_houses().items():
            for lot in inner_classes(one)[:12]:
                inner = lot[-1]
                degree = self.unchanged(own_degree, one, inner)
                found = self.unchanged(own_poly, one, inner)
                self.assertEqual(found.degree, degree, name)
                self.assertEqual((found.prime, found.wide), (one.prime, one.wide))
                kept = [each.lines for each in one.tables if slow_led(found, each) == found]
                self.assertEqual(kept, [each.lines for each in inner.tables], name)
                if degree > 0:
                    self.assertEqual(kept_number(one, inner, min(degree - 1, 12)), 0, name)
                    self.assertTrue(degree > 12 or kept_number(one, inner, degree) > 0, name)
                # It is the same for all houses of a list.
                self.assertEqual(own_degree(one, lot[0]), degree)

    def test_the_poly_without_terms(self):
        for name, one in mid_houses().items():
            self.assertEqual(own_degree(house=one, inner=one), -1, name)
            self.assertEqual(own_poly(house=one, inner=one), constant(one.prime, one.wide, 0), name)

    def test_by_trying_all(self):
        houses = many_houses()
        for name in ("all 2 2", "shear 2 2", "minus 3 1", "shear 3 2", "quaternions 3 2", "cycle 2 3", "planes 2 3"):
            one = houses[name]
            for inner in inner_houses(one)[:-1]:
                lot = tuple(each.lines for each in inner.tables)
                degree = own_degree(one, inner)
                if one.prime ** len([row for at in range(degree + 1) for row in all_rows(one.wide, at)]) <= 1100:
                    self.assertIn(lot, slow_kept(one, degree), name)
                    self.assertNotIn(lot, slow_kept(one, degree - 1), name)

    def test_24_tables(self):
        for one in (SPECIAL, E24, house(97, [[pow(5, 4, 97)]])):
            for inner in inner_houses(one):
                found = own_poly(one, inner)
                self.assertEqual(keeper(one, found), inner)
                self.assertEqual(own_degree(one, inner), found.degree)
        cyclic = house(97, [[pow(5, 4, 97)]])
        self.assertEqual([own_degree(cyclic, inner) for inner in inner_houses(cyclic)], [1, 2, 3, 4, 6, 8, 12, -1])

    def test_other_coordinates(self):
        for name, one in mid_houses().items():
            if one.size <= 12:
                g = drawn_table(one.prime, one.wide, name + "own")
                other = house_led(one, g)
                for inner in inner_houses(one)[:4]:
                    there = house_led(inner, g)
                    self.assertEqual(own_degree(other, there), own_degree(one, inner), name)
                    self.assertEqual(kept_number(other, there, 2), kept_number(one, inner, 2), name)
                    self.assertEqual(keeper(other, led(own_poly(one, inner), inverse(g))), there, name)

    def test_by_hand(self):
        x, y = letters(5, 2)
        self.assertEqual(own_degree(SIGNED, H), 2)
        self.assertEqual(own_degree(SIGNED, house(5, [[0, 4], [1, 0]])), 4)
        self.assertEqual(own_degree(SIGNED, house(5, [[4, 0], [0, 1]])), 1)
        self.assertIn(own_poly(SIGNED, house(5, [[4, 0], [0, 1]])).terms[(0, 1)], (1, 2, 3, 4))
        self.assertEqual(own_degree(SIGNED, trivial(5, 2)), 1)


if __name__ == "__main__":
    unittest.main()
