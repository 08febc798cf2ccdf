"""Points [31] and [32], unswayed/leadings.py."""

import unittest

from tests.tools import (
    NO_OBJECTS, ToolCase, all_houses, all_points, house, is_slow_unswayed, level_poly, slow_led, slow_moved,
    slow_orbit, slow_product, slow_sum, small_houses, some_points, some_poly, some_table, table, trivial)
from unswayed.leadings import is_unswayed, leading, led, led_lot, lot_product, lot_sum, moved, orbit_of
from unswayed.polys import Poly, constant, is_level, letter, poly_power, poly_product, poly_sum, value_at
from unswayed.tables import Table, plain, times

NO_POINTS = (None, 1, "ab", [1], [1, 2, 3], [1, None], [True, 1], [1, 1.0], {1: 1, 2: 2}, [[1, 2], [3, 4]])


def terms_list(poly):
    return list(poly.terms.items())


class MovedTest(ToolCase):
    def test_by_hand(self):
        one = table(5, [1, 2], [0, 3])
        self.assertEqual(moved(table=one, point=[1, 1]), (3, 3))
        self.assertEqual(moved(one, (-1, 10 ** 20 + 1)), (1, 3))
        self.assertEqual(moved(plain(5, 0), []), ())
        self.assertEqual(moved(table(5, [0, 0], [0, 0]), [3, 4]), (0, 0))
        self.assertIsInstance(moved(one, [1, 1]), tuple)

    def test_products(self):
        for prime in (2, 7, 97):
            for seed in range(5):
                one, two = some_table(prime, 4, 4, seed), some_table(prime, 4, 4, seed + 50)
                point = [seed, -3, 4, 100]
                self.assertEqual(moved(times(one, two), point), moved(one, moved(two, point)))

    def test_wrong(self):
        for thing in NO_OBJECTS + (Table(5, 1, 2, [[1, 2]]), Table(5, 0, 2, [])):
            self.refused(("BadTable",), moved, thing, None)
        for point in NO_POINTS:
            self.refused(("BadPoint",), moved, plain(5, 2), point)


class LedTest(ToolCase):
    def test_by_hand(self):
        one = table(5, [1, 2], [0, 3])
        self.assertEqual(led(letter(5, 2, 0), one).terms, {(1, 0): 1, (0, 1): 2})
        self.assertEqual(led(poly=letter(5, 2, 1), table=one).terms, {(0, 1): 3})
        self.assertEqual(led(Poly(5, 2, {(1, 1): 1}), one).terms, {(1, 1): 3, (0, 2): 1})
        self.assertEqual(led(constant(5, 2, 4), table(5, [0, 0], [0, 0])), constant(5, 2, 4))
        self.assertEqual(led(Poly(5, 2, {(1, 1): 1, (0, 0): 2}), table(5, [0, 0], [1, 1])), constant(5, 2, 2))

    def test_second_way(self):
        for prime, wide in ((2, 1), (2, 3), (3, 2), (5, 3), (97, 2), (3, 5)):
            for seed in range(5):
                one, poly = some_table(prime, wide, wide, seed), some_poly(prime, wide, 7, seed)
                self.assertEqual(self.unchanged(led, poly, one), slow_led(poly, one))

    def test_facts(self):
        for name, one in all_houses().items():
            g, h = one.tables[-1], one.tables[one.size // 2]
            poly = some_poly(one.prime, one.wide, 5, one.size)
            self.assertEqual(led(led(poly, g), h), led(poly, times(g, h)), name)
            self.assertEqual(led(poly, g).degree, poly.degree)
            self.assertEqual(is_level(led(poly, g)), is_level(poly))
            self.assertTrue(is_level(led(level_poly(one.prime, one.wide, 4, 1), g)))
            for point in some_points(one, 3):
                self.assertEqual(value_at(led(poly, g), point), value_at(poly, moved(g, point)))

    def test_high_degrees_and_many_unknowns(self):
        poly = poly_power(letter(97, 2, 0), 120)
        image = led(poly, table(97, [1, 1], [3, 5]))
        for point in ([1, 1], [96, 5], [40, 50]):
            self.assertEqual(value_at(image, point), pow(sum(point), 120, 97))
        ones = Table(2, 12, 12, [[1] * 12] * 12)
        self.assertEqual(led(poly_power(letter(2, 12, 3), 64), ones).terms,
                         {(0,) * k + (64,) + (0,) * (11 - k): 1 for k in range(12)})

    def test_wrong(self):
        one = letter(5, 2, 0)
        for thing in NO_OBJECTS:
            self.refused(("BadPoly",), led, thing, None)
        for thing in NO_OBJECTS + (plain(7, 2), plain(5, 3), Table(5, 2, 3, [[0] * 3] * 2), plain(5, 0),
                                   Table(5, 3, 2, [[1, 0], [0, 1], [0, 0]])):
            self.refused(("BadTable",), led, one, thing)


class OrbitTest(ToolCase):
    def test_second_way(self):
        for name, one in all_houses().items():
            for point in some_points(one, 1):
                found = self.unchanged(orbit_of, one, point)
                self.assertEqual(found, slow_orbit(one, point), name)
                self.assertTrue(all(isinstance(item, tuple) for item in found))
                self.assertEqual(one.size % len(found), 0)

    def test_by_hand(self):
        one = house(5, [[4, 0], [0, 4]])
        self.assertEqual(orbit_of(house=one, point=(1, -2)), [(1, 3), (4, 2)])
        self.assertEqual(orbit_of(one, [0, 5]), [(0, 0)])

    def test_leading(self):
        for name, one in small_houses().items():
            for first in some_points(one, 1, 3):
                for other in all_points(one.prime, one.wide):
                    good = [each for each in one.tables if slow_moved(each, first) == other]
                    found = leading(one, first, other)
                    self.assertTrue(found is None if not good else found == good[0], name)

    def test_leading_by_hand(self):
        one = house(5, [[4, 0], [0, 4]])
        self.assertEqual(leading(house=one, one=[6, 2], other=[-1, 3]), table(5, [4, 0], [0, 4]))
        self.assertEqual(leading(one, [0, 0], [5, 0]), plain(5, 2))
        self.assertIsNone(leading(one, [0, 0], [1, 0]))
        self.unchanged(leading, one, [1, 2], [4, 3])

    def test_wrong(self):
        one = trivial(5, 2)
        for thing in NO_OBJECTS + (plain(5, 2),):
            self.refused(("BadHouse", None), orbit_of, thing, None)
            self.refused(("BadHouse", None), leading, thing, None, None)
        for point in NO_POINTS:
            self.refused(("BadPoint",), orbit_of, one, point)
            self.refused(("BadPoint",), leading, one, point, [1, 2])
            self.refused(("BadPoint",), leading, one, [1, 2], point)


class LotTest(ToolCase):
    def test_second_way(self):
        for name, one in all_houses().items():
            for seed in range(2):
                poly = some_poly(one.prime, one.wide, 3, seed, 3)
                found = self.unchanged(led_lot, one, poly)
                images = {tuple(terms_list(slow_led(poly, each))) for each in one.tables}
                self.assertEqual([tuple(terms_list(each)) for each in found], sorted(images), name)
                self.assertEqual(one.size % len(found), 0)

    def test_unswayed(self):
        for name, one in all_houses().items():
            for seed in range(3):
                poly = some_poly(one.prime, one.wide, 2, seed, 3)
                self.assertIs(is_unswayed(one, poly), is_slow_unswayed(one, poly), name)
                self.assertEqual(is_unswayed(one, poly), led_lot(one, poly) == [poly])
            self.assertIs(is_unswayed(one, constant(one.prime, one.wide, 1)), True)
            self.assertIs(is_unswayed(one, Poly(one.prime, one.wide, {})), True)

    def test_each_table_counts(self):
        one = house(5, [[4, 0], [0, 1]], [[1, 0], [0, 4]])
        x, y = letter(5, 2, 0), letter(5, 2, 1)
        self.assertFalse(is_unswayed(one, x))
        self.assertFalse(is_unswayed(one, y))
        self.assertFalse(is_unswayed(one, poly_sum(x, poly_product(y, y))))
        self.assertTrue(is_unswayed(house=one, poly=poly_sum(poly_product(x, x), poly_product(y, y))))

    def test_sum_and_product(self):
        for name, one in all_houses().items():
            poly = some_poly(one.prime, one.wide, 2, one.size, 2)
            lot = led_lot(one, poly)
            total = Poly(one.prime, one.wide, {})
            for each in lot:
                total = slow_sum(total, each)
            self.assertEqual(lot_sum(one, poly), total, name)
            self.assertTrue(is_unswayed(one, total))
            if poly.degree * len(lot) <= 24:
                whole = constant(one.prime, one.wide, 1)
                for each in lot:
                    whole = slow_product(whole, each)
                self.assertEqual(lot_product(one, poly), whole, name)
            elif poly.degree * len(lot) > 120:
                self.refused(("TooMany", 120), lot_product, one, poly)
            form = letter(one.prime, one.wide, 0)
            self.assertEqual(lot_product(one, form).degree, len(led_lot(one, form)))
            self.assertTrue(is_unswayed(one, lot_product(one, form)))

    def test_by_hand(self):
        one = house(5, [[4, 0], [0, 4]])
        x = letter(5, 2, 0)
        self.assertEqual([each.terms for each in led_lot(house=one, poly=x)], [{(1, 0): 1}, {(1, 0): 4}])
        self.assertEqual(lot_sum(house=one, poly=x), Poly(5, 2, {}))
        self.assertEqual(lot_product(house=one, poly=x).terms, {(2, 0): 4})
        self.assertEqual(lot_product(one, constant(5, 2, 3)), constant(5, 2, 3))
        self.assertEqual(lot_product(one, Poly(5, 2, {})), Poly(5, 2, {}))
        high = poly_power(x, 61)
        self.refused(("TooMany", 120), lot_product, one, high)
        self.assertEqual(lot_product(one, poly_power(x, 60)), poly_power(x, 60))
        self.assertEqual(lot_sum(one, high), Poly(5, 2, {}))

    def test_wrong(self):
        one = trivial(5, 2)
        for call in (led_lot, is_unswayed, lot_sum, lot_product):
            for thing in NO_OBJECTS + (letter(5, 2, 0),):
                self.refused(("BadHouse", None), call, thing, None)
            for thing in NO_OBJECTS + (letter(7, 2, 0), letter(5, 3, 0), {(1, 0): 1}, one):
                self.refused(("BadPoly",), call, one, thing)


if __name__ == "__main__":
    unittest.main()
