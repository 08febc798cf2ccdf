"""Point [50], unswayed/forms.py."""

import itertools
import unittest

from tests.tools import (
    NO_NUMBERS, NO_OBJECTS, ToolCase, all_houses, all_points, form_poly, house, signed, slow_led, slow_orbit,
    slow_product, slow_sum, small_houses, some_points, trivial)
from unswayed.forms import form_lot, form_row, orbit_poly
from unswayed.leadings import is_unswayed, lot_product, lot_sum
from unswayed.polys import Poly, constant, is_level, value_at

NO_FORMS = (None, 1, "ab", [1], [1, 2, 3], [1, None], [True, 1], [1, 1.0], {1: 1, 2: 2}, [[1, 2], [3, 4]])


def slow_lot(one, form):
    """The forms of the Polys to which the tables lead the one of the form."""
    images = [slow_led(form_poly(one.prime, form), each) for each in one.tables]
    units = [tuple(int(k == at) for k in range(one.wide)) for at in range(one.wide)]
    return sorted({tuple(image.terms.get(unit, 0) for unit in units) for image in images})


def slow_orbit_poly(one, lot, degree):
    total = Poly(one.prime, one.wide, {})
    for chosen in itertools.combinations(lot, degree):
        part = constant(one.prime, one.wide, 1)
        for form in chosen:
            part = slow_product(part, form_poly(one.prime, form))
        total = slow_sum(total, part)
    return total


class FormTest(ToolCase):
    def test_lots(self):
        for name, one in all_houses().items():
            for form in some_points(one, 5) + [(0,) * one.wide]:
                found = self.unchanged(form_lot, one, form)
                self.assertEqual(found, slow_lot(one, form), name)
                self.assertTrue(all(isinstance(member, tuple) for member in found))
                self.assertEqual(one.size % len(found), 0)

    def test_orbit_polys(self):
        for name, one in all_houses().items():
            for form in some_points(one, 6, 2):
                lot = form_lot(one, form)
                for degree in range(1, len(lot) + 1):
                    if len(lot) > 8 and 3 < degree < len(lot):
                        continue
                    found = orbit_poly(one, form, degree)
                    self.assertTrue(is_level(found) and is_unswayed(one, found), name)
                    self.assertIn(found.degree, (degree, -1))
                    if len(lot) <= 8 or degree < 3:
                        self.assertEqual(found, slow_orbit_poly(one, lot, degree), name)
                poly = form_poly(one.prime, form)
                self.assertEqual(orbit_poly(one, form, 1), lot_sum(one, poly))
                self.assertEqual(orbit_poly(one, form, len(lot)), lot_product(one, poly))

    def test_rows(self):
        for name, one in all_houses().items():
            for form in some_points(one, 7, 3):
                for point in some_points(one, 8, 2):
                    found = self.unchanged(form_row, one, form, point)
                    self.assertIsInstance(found, tuple)
                    lot = form_lot(one, form)
                    self.assertEqual(len(found), len(lot))
                    numbers = [sum(x * y for x, y in zip(member, point)) for member in lot]
                    whole = [1]
                    for number in numbers:
                        whole = [x + number * y for x, y in zip(whole + [0], [0] + whole)]
                    self.assertEqual(found, tuple(x % one.prime for x in whole[1:]), name)
                    for degree in (1, (len(lot) + 1) // 2, len(lot)):
                        self.assertEqual(found[degree - 1], value_at(orbit_poly(one, form, degree), point))

    def test_by_hand(self):
        one = house(5, [[4, 0], [0, 4]])
        self.assertEqual(form_lot(house=one, form=[6, -3]), [(1, 2), (4, 3)])
        self.assertEqual(orbit_poly(house=one, form=(1, 2), degree=1), Poly(5, 2, {}))
        self.assertEqual(orbit_poly(one, [1, 2], 2).terms, {(2, 0): 4, (1, 1): 1, (0, 2): 1})
        self.assertEqual(form_row(house=one, form=[1, 2], point=[1, 0]), (0, 4))
        self.assertEqual(form_lot(one, [0, 5]), [(0, 0)])
        self.assertEqual(form_row(one, [0, 0], [1, 1]), (0,))
        self.assertEqual(orbit_poly(one, [0, 0], 1), Poly(5, 2, {}))

    def test_48_members(self):
        one = signed(97)
        self.assertEqual(len(form_lot(one, [1, 2, 3])), 48)
        found = orbit_poly(one, [1, 2, 3], 48)
        self.assertEqual(found.degree, 48)
        self.assertEqual(value_at(found, [5, 6, 7]), form_row(one, [1, 2, 3], [5, 6, 7])[47])

    def test_heart(self):
        for name, one in small_houses().items():
            points = all_points(one.prime, one.wide)
            if len(points) > 64:
                continue
            rows = {point: [form_row(one, form, point) for form in points] for point in points}
            for point in points:
                same = sorted(other for other in points if rows[other] == rows[point])
                self.assertEqual(same, slow_orbit(one, point), name)
                self.assertEqual(all(not any(row) for row in rows[point]), not any(point), name)

    def test_wrong(self):
        one = trivial(5, 2)
        for thing in NO_OBJECTS:
            self.refused(("BadHouse", None), form_lot, thing, None)
            self.refused(("BadHouse", None), orbit_poly, thing, None, None)
            self.refused(("BadHouse", None), form_row, thing, None, None)
        for form in NO_FORMS:
            self.refused(("BadPoint",), form_lot, one, form)
            self.refused(("BadPoint",), orbit_poly, one, form, None)
            self.refused(("BadPoint",), form_row, one, form, [1, 2])
            self.refused(("BadPoint",), form_row, one, [1, 2], form)
        for degree in (0, 2, -1) + NO_NUMBERS:
            self.refused(("BadNumber", "degree"), orbit_poly, one, [1, 2], degree)
        self.refused(("BadNumber", "degree"), orbit_poly, signed(97), [1, 0, 0], 7)


if __name__ == "__main__":
    unittest.main()
