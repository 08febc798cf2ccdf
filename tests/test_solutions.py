"""Point [112], unswayed/solutions.py."""

import itertools
import unittest

from tests.test_makers import H, LOT, SHEAR, SHEAR_LOT, X, XX, XY, YY, lots_of_mild
from tests.tools import (
    NO_NUMBERS, NO_OBJECTS, ToolCase, all_points, drawn_table, house, letters, many_houses, slow_value, some_poly, trivial)
from unswayed.equations import equations_of
from unswayed.houses import house_led, is_mild
from unswayed.leadings import led
from unswayed.makers import makers_of
from unswayed.orbitcounts import orbits_many
from unswayed.polys import Poly, constant, poly_power, poly_product, poly_scaled, poly_sum
from unswayed.solutions import solutions_of, source_of
from unswayed.solving import inverse
from unswayed.twisted import exponent, house_field, stable_orbits
from unswayed.widefields import WideField, far_value

MAKERS = [XX, XY, YY]
A, B, C = letters(5, 3)
EQUATION = poly_sum(poly_product(A, C), poly_scaled(poly_product(B, B), -1))


def solved_lots(most=5000):
    """Mild houses, lots, fewest makers and equations whose solutions are among few points, by names."""
    found = {}
    for name, (one, lot) in lots_of_mild().items():
        makers = makers_of(one, lot)
        if one.prime ** len(makers) <= most and len(makers) <= 12:
            found[name] = (one, lot, makers, equations_of(one, lot, makers))
    return found


LOTS = solved_lots()


class SolutionsTest(ToolCase):
    def test_second_way(self):
        for prime, wide, most in ((2, 1, 3), (2, 5, 4), (2, 12, 3), (3, 2, 6), (3, 7, 3), (5, 3, 9), (7, 2, 20), (17, 3, 2), (67, 2, 5)):
            for many in (1, 2):
                polys = [some_poly(prime, wide, most, (prime, at).__repr__(), 4) for at in range(many)]
                found = self.unchanged(solutions_of, prime, wide, polys)
                expected = [point for point in all_points(prime, wide) if all(slow_value(one, point) == 0 for one in polys)]
                self.assertEqual(found, expected)
                self.assertEqual(solutions_of(prime=prime, wide=wide, polys=tuple(polys)), expected)

    def test_no_polys_and_no_terms(self):
        self.assertEqual(solutions_of(3, 2, []), all_points(3, 2))
        self.assertEqual(solutions_of(3, 2, (Poly(3, 2, {}),)), all_points(3, 2))
        self.assertEqual(solutions_of(3, 2, [constant(3, 2, 1)]), [])
        self.assertEqual(solutions_of(2, 12, []), all_points(2, 12))
        self.assertEqual(solutions_of(97, 1, [Poly(97, 1, {(120,): 1, (24,): -1})]), [(at,) for at in range(97)])

    def test_by_hand(self):
        found = solutions_of(5, 3, [EQUATION])
        self.assertEqual(len(found), 25)
        sources = [source_of(H, LOT, MAKERS, row) for row in found]
        self.assertEqual((len([one for one in sources if one]), sources.count(None)), (13, 12))
        self.assertIn((2, 0, 0), found)
        self.assertIsNone(source_of(house=H, lot=LOT, makers=MAKERS, numbers=(2, 0, 0)))
        self.assertEqual(source_of(H, LOT, MAKERS, [4, -1, 4 + 5 * 10 ** 20]), (2, 2))

    def test_5000_points(self):
        # 17 ** 3 is 4913, 71 ** 2 is 5041, 67 ** 2 is 4489, 2 ** 12 is 4096, 3 ** 8 is 6561.
        self.assertEqual(len(solutions_of(17, 3, [Poly(17, 3, {(1, 0, 0): 1})])), 289)
        self.assertEqual(len(solutions_of(67, 2, [])), 4489)
        for prime, wide in ((71, 2), (19, 3), (97, 12), (3, 8), (2, 13 - 1)):
            if prime ** wide > 5000:
                self.refused(("TooMany", 5000), solutions_of, prime, wide, [])
                self.refused(("BadPoly",), solutions_of, prime, wide, None)
        one = house(71, [[70, 0], [0, 70]])
        x, y = letters(71, 2)
        lot = [poly_product(x, x), poly_product(y, y)]
        makers = lot + [poly_product(x, y)]
        self.refused(("TooMany", 5000), source_of, one, lot, makers, [0, 0, 0])
        self.refused(("BadPoint",), source_of, one, lot, makers, [0, 0])
        x, y, z = letters(17, 3)
        self.assertEqual(source_of(trivial(17, 3), [x, y, z], [x, z, y], [1, 2, 16]), (1, 16, 2))

    def test_errors_in_their_sequence(self):
        for thing in NO_NUMBERS + (0, 1, 4, 101, -3):
            self.refused(("BadPrime",), solutions_of, thing, None, None)
        for thing in NO_NUMBERS + (0, 13, -1):
            self.refused(("BadNumber", "wide"), solutions_of, 97, thing, None)
        for thing in (None, "x", 1, True, {}, X, [1], [X, None], [letters(3, 2)[0]], [letters(5, 3)[0]], [X, letters(5, 1)[0]]):
            self.refused(("BadPoly",), solutions_of, 5, 2, thing)
        for thing in NO_OBJECTS:
            self.refused(("BadHouse", None), source_of, thing, None, None, None)
            self.refused(("BadLot",), source_of, H, thing, None, None)
            self.refused(("BadMakers",), source_of, H, LOT, thing, None)
        for name, one in many_houses().items():
            if not is_mild(one):
                self.refused(("NoMean",), source_of, one, None, None, None)
        self.refused(("NoMean",), source_of, SHEAR, SHEAR_LOT, None, None)
        x, y, z = letters(5, 3)
        self.refused(("TooMany", 300), source_of, trivial(5, 3), [poly_power(x, 24), y, z], None, None)
        for wrong in ([XX, YY], MAKERS + [X]):
            self.refused(("BadMakers",), source_of, H, LOT, wrong, [0, 0, 0])
        for point in NO_OBJECTS + ([1, 2], [1, 2, 3, 4], [1, 2, True], [1, 2, None], "abc", {0: 1}):
            self.refused(("BadPoint",), source_of, H, LOT, MAKERS, point)


class SourceTest(ToolCase):
    def test_second_way(self):
        for name, (one, lot) in lots_of_mild().items():
            if one.prime ** one.wide <= 400:
                makers = tuple(makers_of(one, lot)) + (poly_product(lot[0], lot[-1]),)
                sources = {}
                for point in all_points(one.prime, one.wide):
                    sources.setdefault(tuple(slow_value(maker, point) for maker in makers), point)
                for row, point in list(sources.items())[::max(1, len(sources) // 6)]:
                    self.assertEqual(self.unchanged(source_of, one, lot, makers, list(row)), point, name)
                    self.assertEqual(source_of(one, lot, makers, [number - one.prime for number in row]), point)
                    other = tuple(row[:-1]) + ((row[-1] + 1) % one.prime,)
                    self.assertEqual(source_of(one, lot, makers, other), sources.get(other), name)


class HeartTest(ToolCase):
    def test_solutions_are_as_many_as_points(self):
        for name, (one, lot, makers, several) in LOTS.items():
            found = solutions_of(one.prime, len(makers), several)
            self.assertEqual(len(found), one.prime ** one.wide, name)
            rows = {tuple(slow_value(maker, point) for maker in makers) for point in all_points(one.prime, one.wide)}
            self.assertLessEqual(rows, set(found))
            self.assertEqual(len(rows), orbits_many(one, 1), name)
            if one.prime ** one.wide <= 130:
                sources = [source_of(one, lot, makers, row) for row in found]
                self.assertEqual(len([source for source in sources if source]), len(rows), name)

    def test_they_are_the_rows_at_stable_orbits(self):
        for name, (one, lot, makers, several) in LOTS.items():
            if one.prime ** one.wide <= 50 and one.wide * exponent(one) <= 24:
                field = house_field(one)
                rows = []
                for orbit in stable_orbits(one):
                    numbers = [far_value(field, maker, orbit[0]) for maker in makers]
                    self.assertTrue(all(not any(number[1:]) for number in numbers), name)
                    rows.append(tuple(number[0] for number in numbers))
                self.assertEqual(sorted(rows), solutions_of(one.prime, len(makers), several), name)

    def test_over_wide_fields(self):
        for name, (one, lot, makers, several) in LOTS.items():
            field = WideField(one.prime, 2)
            if field.prime ** (2 * len(makers)) <= 1000:
                numbers = all_points(one.prime, 2)
                found = [point for point in itertools.product(numbers, repeat=len(makers))
                         if not any(any(far_value(field, each, point)) for each in several)]
                self.assertEqual(len(found), one.prime ** (2 * one.wide), name)

    def test_other_coordinates_and_makers(self):
        for name, (one, lot, makers, several) in list(LOTS.items())[::3]:
            g = drawn_table(one.prime, one.wide, name + "h")
            back = inverse(g)
            other = house_led(one, g)
            there = [led(poly, back) for poly in makers]
            changed = [poly_scaled(poly, 2 % one.prime or 1) for poly in there]
            for each in (there, changed):
                equations = equations_of(other, [led(poly, back) for poly in lot], each)
                self.assertEqual(len(solutions_of(one.prime, len(makers), equations)), one.prime ** one.wide, name)


if __name__ == "__main__":
    unittest.main()
