"""Point [40], unswayed/means.py."""

import unittest

from tests.tools import (
    NO_OBJECTS, ToolCase, all_houses, house, slow_led, slow_sum, some_poly, trivial)
from unswayed.degrees import unswayed_of
from unswayed.houses import is_mild
from unswayed.leadings import is_unswayed, led_lot, lot_sum
from unswayed.means import mean
from unswayed.polys import Poly, constant, letter, poly_product, poly_scaled, poly_sum


class MeanTest(ToolCase):
    def test_second_way(self):
        for name, one in all_houses().items():
            if not is_mild(one):
                continue
            poly = some_poly(one.prime, one.wide, 4, 5)
            total = Poly(one.prime, one.wide, {})
            for each in one.tables:
                total = slow_sum(total, slow_led(poly, each))
            found = self.unchanged(mean, one, poly)
            self.assertEqual(poly_scaled(found, one.size), total, name)
            self.assertTrue(is_unswayed(one, found), name)
            self.assertEqual(mean(one, found), found)
            many = len(led_lot(one, poly))
            self.assertEqual(poly_scaled(found, many), lot_sum(one, poly))

    def test_unswayed_factors(self):
        for name, one in all_houses().items():
            if is_mild(one):
                poly = some_poly(one.prime, one.wide, 3, 8, 4)
                for degree in range(5):
                    for factor in unswayed_of(one, degree)[:2]:
                        self.assertEqual(mean(one, factor), factor)
                        self.assertEqual(
                            mean(one, poly_product(factor, poly)), poly_product(factor, mean(one, poly)), name)

    def test_by_hand(self):
        one = house(5, [[4, 0], [0, 4]])
        x, y = letter(5, 2, 0), letter(5, 2, 1)
        self.assertEqual(mean(house=one, poly=poly_sum(x, poly_product(x, y))), poly_product(x, y))
        self.assertEqual(mean(one, constant(5, 2, 3)), constant(5, 2, 3))
        self.assertEqual(mean(house(5, [[0, 1], [1, 0]]), x).terms, {(1, 0): 3, (0, 1): 3})
        self.assertEqual(mean(trivial(2, 2), letter(2, 2, 1)), letter(2, 2, 1))

    def test_wrong(self):
        wild = house(3, [[1, 1], [0, 1]])
        for thing in NO_OBJECTS:
            self.refused(("BadHouse", None), mean, thing, None)
            self.refused(("BadPoly",), mean, wild, thing)
        for poly in (letter(5, 2, 0), letter(3, 1, 0)):
            self.refused(("BadPoly",), mean, wild, poly)
        self.refused(("NoMean",), mean, wild, letter(3, 2, 0))
        self.refused(("NoMean",), mean, wild, Poly(3, 2, {}))


if __name__ == "__main__":
    unittest.main()
