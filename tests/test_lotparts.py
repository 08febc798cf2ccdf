"""Point [126], unswayed/lotparts.py, and the opening of Part 10."""

import itertools
import unittest

from tests.tools import (
    NO_OBJECTS, ToolCase, drawn_table, house, is_slow_unswayed, letters, many_houses, signed, slow_led, small_houses, trivial)
from unswayed.changes import change, is_change, what_parts
from unswayed.degrees import unswayed_of
from unswayed.houses import House, house_led
from unswayed.inner import common_house, inner_houses, is_inner, joined_house
from unswayed.lotparts import is_lot_parting, lot_parting
from unswayed.polys import Poly, constant, is_level, poly_power, poly_product, poly_scaled, poly_sum
from unswayed.tables import plain

H = house(5, [[4, 0], [0, 4]])
SIGNED = house(5, [[0, 1], [1, 0]], [[4, 0], [0, 1]])
X, Y = letters(5, 2)
TWO_HOUSES = (
    (is_inner, ()), (common_house, ()), (joined_house, ()), (lot_parting, ()), (is_lot_parting, (None,)), (change, ()),
    (is_change, (None,)), (what_parts, ()))


def pairs_of():
    """Pairs of houses of one prime and in as many unknowns, some of one within the other."""
    found = []
    for name, one in many_houses().items():
        parts = [House(one.prime, one.wide, [each]) for each in one.tables[::max(1, one.size // 3)]]
        parts = parts + [trivial(one.prime, one.wide), one]
        parts.append(house_led(one, drawn_table(one.prime, one.wide, name + "part")))
        found += [(name, a, b) for a, b in itertools.product(parts[:2] + parts[-3:], repeat=2)]
    return found


class LotPartingTest(ToolCase):
    def test_many_houses(self):
        for at, (name, one, other) in enumerate(pairs_of()):
            found = self.unchanged(lot_parting, one, other) if at % 10 == 0 else lot_parting(one, other)
            within = all(each in one.tables for each in other.tables)
            self.assertEqual(found is None, within, name)
            if found is not None:
                self.assertTrue(is_level(found))
                self.assertTrue(all(slow_led(found, each) == found for each in one.few), name)
                self.assertFalse(all(slow_led(found, each) == found for each in other.few), name)
                self.assertLessEqual(found.degree, one.size, name)
                self.assertIs(is_lot_parting(one, other, found), True)
                for degree in range(1, found.degree):
                    for poly in unswayed_of(one, degree):
                        self.assertTrue(all(slow_led(poly, each) == poly for each in other.few), name)

    def test_by_hand(self):
        found = lot_parting(one=H, other=SIGNED)
        self.assertEqual(found.degree, 2)
        self.assertIsNone(lot_parting(SIGNED, H))
        self.assertIsNone(lot_parting(H, H))
        self.assertIsNone(lot_parting(H, house(5, [[4, 0], [0, 4]])))
        self.assertEqual(lot_parting(trivial(5, 2), H).degree, 1)
        # The degree is the size.
        for size in (2, 3, 4, 6, 12, 48):
            one = house(97, [[pow(5, 96 // size, 97)]])
            other = house(97, [[pow(5, 96 // 32, 97)]])
            self.assertEqual((one.size, lot_parting(one, other).terms), (size, {(size,): 1}))
        one, other = house(97, [[22]]), house(97, [[35]])
        self.assertEqual((one.size, lot_parting(one, other).terms), (4, {(4,): 1}))
        self.assertEqual((other.size, lot_parting(other, one).terms), (3, {(3,): 1}))

    def test_more_than_300_rows(self):
        scalars = house(97, [[19 ** 3, 0, 0], [0, 19 ** 3, 0], [0, 0, 19 ** 3]])
        self.assertEqual(scalars.size, 32)
        for other in (house(97, [[0, 1, 0], [1, 0, 0], [0, 0, 1]]), signed(97), house(97, [[22, 0, 0], [0, 1, 0], [0, 0, 1]])):
            self.refused(("TooMany", 300), lot_parting, scalars, other)
        self.assertIsNone(lot_parting(scalars, house(97, [[96, 0, 0], [0, 96, 0], [0, 0, 96]])))
        edge = house(47, [[4, 0, 0], [0, 4, 0], [0, 0, 4]])
        self.assertEqual((edge.size, lot_parting(edge, house(47, [[0, 1, 0], [1, 0, 0], [0, 0, 1]])).degree), (23, 23))

    def test_equal_houses_are_those_without_a_parting(self):
        for one in (small_houses()["signed 5 2"], small_houses()["all 2 2"], small_houses()["triangles 2 3"]):
            houses = inner_houses(one)
            for a, b in itertools.product(houses, repeat=2):
                both = lot_parting(a, b), lot_parting(b, a)
                self.assertEqual(both == (None, None), a == b)
                self.assertTrue(all(poly is None or poly.degree <= max(a.size, b.size) for poly in both))


class IsLotPartingTest(ToolCase):
    def test_any_value(self):
        two = poly_product(X, Y)
        for thing in (two, poly_scaled(two, 3), poly_sum(two, poly_power(X, 2)), poly_power(two, 3), poly_product(X, X)):
            self.assertIs(self.unchanged(is_lot_parting, H, SIGNED, thing), True)
        wrong = NO_OBJECTS + (
            X, poly_sum(two, X), poly_sum(two, constant(5, 2, 1)), constant(5, 2, 1), Poly(5, 2, {}), [two], H, plain(5, 2),
            poly_sum(poly_power(X, 2), poly_power(Y, 2)), poly_product(*letters(3, 2)), poly_product(*letters(5, 3)[:2]),
            poly_sum(two, poly_power(two, 2)))
        for thing in wrong:
            self.assertIs(is_lot_parting(H, SIGNED, thing), False)
        self.assertIs(is_lot_parting(one=H, other=SIGNED, thing=two), True)
        for thing in (two, X, None):
            self.assertIs(is_lot_parting(SIGNED, H, thing), False)
            self.assertIs(is_lot_parting(H, H, thing), False)
        for _, one, other in pairs_of()[::7]:
            for poly in unswayed_of(one, 2):
                self.assertIs(is_lot_parting(one, other, poly), not is_slow_unswayed(other, poly))


class OpeningTest(ToolCase):
    def test_errors_of_two_houses(self):
        for call, more in TWO_HOUSES:
            for thing in NO_OBJECTS + (plain(5, 2), X):
                self.refused(("BadHouse", None), call, thing, trivial(5, 2), *more)
                self.refused(("BadHouse", None), call, trivial(5, 2), thing, *more)
            self.refused(("BadHouse", "prime"), call, trivial(5, 2), trivial(3, 3), *more)
            self.refused(("BadHouse", "prime"), call, trivial(5, 2), trivial(3, 2), *more)
            self.refused(("BadHouse", "wide"), call, trivial(5, 2), trivial(5, 3), *more)


if __name__ == "__main__":
    unittest.main()
