"""Point [20], unswayed/polys.py."""

import unittest
from math import comb

from tests.tools import (
    NO_NUMBERS, NO_OBJECTS, ToolCase, all_points, all_rows, level_poly, slow_product, slow_sum, slow_value, some_poly)
from unswayed.polys import (
    Poly, constant, is_level, layer_of, letter, poly_power, poly_product, poly_scaled, poly_sum, rows_of, value_at)

ZERO = Poly(5, 2, {})


def some_polys(prime, wide):
    return [some_poly(prime, wide, degree, degree + wide, 5) for degree in range(6)] + [Poly(prime, wide, {})]


class PolyTest(ToolCase):
    def test_attributes(self):
        one = Poly(5, 2, {(2, 1): 7, (0, 3): -1, (1, 1): 10, (0, 0): 4})
        self.assertEqual((one.prime, one.wide, one.degree), (5, 2, 3))
        self.assertEqual(list(one.terms.items()), [((0, 0), 4), ((0, 3), 4), ((2, 1), 2)])
        self.assertEqual(Poly(prime=2, wide=1, terms={(0,): 10 ** 30 + 1}).terms, {(0,): 1})
        self.assertEqual((ZERO.degree, ZERO.terms), (-1, {}))
        self.assertEqual(Poly(5, 2, {(9, 9): 5}).degree, -1)
        self.assertEqual(Poly(5, 12, {(0,) * 12: 1}).degree, 0)

    def test_terms_are_new_each_time(self):
        given = {(1, 0): 6, (0, 1): 5}
        one = Poly(5, 2, given)
        self.assertEqual(given, {(1, 0): 6, (0, 1): 5})
        given[(3, 3)] = 1
        told = one.terms
        self.assertIsNot(told, one.terms)
        told[(2, 2)] = 3
        del told[(1, 0)]
        self.assertEqual(one.terms, {(1, 0): 1})
        self.assertEqual(one, Poly(5, 2, {(1, 0): 1}))

    def test_degrees_up_to_120(self):
        self.assertEqual(Poly(5, 2, {(60, 60): 1}).degree, 120)
        self.assertEqual(Poly(97, 1, {(120,): -1}).terms, {(120,): 96})
        for number in (1, 0, 5):
            self.refused(("TooMany", 120), Poly, 5, 2, {(60, 61): number})
        self.refused(("BadPoly",), Poly, 5, 2, {(60, 61): 1, (0, 0): None})

    def test_wrong_arguments(self):
        for prime in (0, 1, 4, 96, 98, 101) + NO_NUMBERS:
            self.refused(("BadPrime",), Poly, prime, None, None)
        for wide in (0, 13, -1) + NO_NUMBERS:
            self.refused(("BadPoly",), Poly, 5, wide, {})
        for terms in (None, [], (), "x", 1, [((0, 0), 1)], {(0,): 1}, {(0, 0, 0): 1}, {(0, -1): 1}, {(0, True): 1},
                      {(0, "1"): 1}, {"ab": 1}, {0: 1}, {None: 1}, {(0, 0): None}, {(0, 0): True}, {(0, 0): "1"},
                      {(0, 0): 1.0}, {(0, 1): 1, (1, 0): [1]}):
            self.refused(("BadPoly",), Poly, 5, 2, terms)

    def test_equality(self):
        one = Poly(5, 2, {(1, 0): 1, (0, 1): 2})
        self.assertTrue(one == Poly(5, 2, {(0, 1): -3, (1, 0): 6, (4, 4): 0}))
        for other in (Poly(7, 2, one.terms), Poly(5, 2, {(1, 0): 1}), Poly(5, 2, {(1, 0): 1, (0, 1): 3})):
            self.assertFalse(one == other)
            self.assertTrue(one != other)
        self.assertFalse(Poly(5, 2, {}) == Poly(5, 3, {}))
        for thing in NO_OBJECTS + ({(1, 0): 1, (0, 1): 2},):
            self.assertFalse(one == thing)
            self.assertTrue(one != thing)


class MadeTest(ToolCase):
    def test_letter_and_constant(self):
        self.assertEqual(letter(5, 3, 1).terms, {(0, 1, 0): 1})
        self.assertEqual(letter(5, 1, 0).terms, {(1,): 1})
        self.assertEqual(constant(5, 1, 3).terms, {(0,): 3})
        self.assertEqual(constant(5, 12, 3).terms, {(0,) * 12: 3})
        self.assertEqual(letter(prime=2, wide=12, spot=11).terms, {(0,) * 11 + (1,): 1})
        self.assertEqual(constant(5, 2, -1).terms, {(0, 0): 4})
        self.assertEqual(constant(prime=5, wide=2, number=10), ZERO)

    def test_wrong_ones(self):
        for call in (letter, constant):
            for prime in (0, 6, 98) + NO_NUMBERS:
                self.refused(("BadPrime",), call, prime, None, None)
            for wide in (0, 13) + NO_NUMBERS:
                self.refused(("BadNumber", "wide"), call, 5, wide, None)
        for spot in (-1, 3) + NO_NUMBERS:
            self.refused(("BadNumber", "spot"), letter, 5, 3, spot)
        for number in NO_NUMBERS:
            self.refused(("BadNumber", "number"), constant, 5, 3, number)

    def test_rows(self):
        self.assertEqual(rows_of(2, 2), [(0, 2), (1, 1), (2, 0)])
        self.assertEqual(rows_of(wide=1, degree=120), [(120,)])
        self.assertEqual(rows_of(12, 0), [(0,) * 12])
        for wide in range(1, 5):
            for degree in range(6):
                self.assertEqual(rows_of(wide, degree), all_rows(wide, degree))
        self.assertEqual(len(rows_of(3, 23)), 300)
        self.assertEqual(len(rows_of(2, 120)), 121)
        self.assertEqual(len(rows_of(12, 2)), 78)
        first = rows_of(3, 2)
        first.append(None)
        self.assertEqual(len(rows_of(3, 2)), 6)

    def test_too_many_rows(self):
        for wide, degree in ((3, 24), (12, 3), (12, 120), (4, 11), (3, 120)):
            self.assertGreater(comb(wide + degree - 1, degree), 300)
            self.refused(("TooMany", 300), rows_of, wide, degree)
        for wide in (0, 13) + NO_NUMBERS:
            self.refused(("BadNumber", "wide"), rows_of, wide, None)
        for degree in (-1, 121) + NO_NUMBERS:
            self.refused(("BadNumber", "degree"), rows_of, 12, degree)


class WorkTest(ToolCase):
    def test_sums_and_products(self):
        for prime, wide in ((2, 1), (5, 2), (97, 3), (3, 12)):
            polys = some_polys(prime, wide)
            for one in polys:
                for other in polys:
                    self.assertEqual(poly_sum(one, other), slow_sum(one, other))
                    self.assertEqual(poly_product(one, other), slow_product(one, other))

    def test_by_hand(self):
        x, y = letter(5, 2, 0), letter(5, 2, 1)
        both = poly_sum(x, y)
        self.assertEqual(poly_product(both, both).terms, {(0, 2): 1, (1, 1): 2, (2, 0): 1})
        self.assertEqual(poly_power(both, 5).terms, {(0, 5): 1, (5, 0): 1})
        self.assertEqual(poly_power(one=both, times=6), poly_product(poly_power(both, 5), both))
        self.assertEqual(poly_scaled(both, -2).terms, {(0, 1): 3, (1, 0): 3})
        self.assertEqual(poly_scaled(both, 10), ZERO)
        self.assertEqual(poly_sum(both, poly_scaled(both, -1)), ZERO)

    def test_powers(self):
        for prime, wide in ((2, 2), (3, 2), (7, 3)):
            for one in some_polys(prime, wide):
                power = constant(prime, wide, 1)
                for times in range(9):
                    self.assertEqual(poly_power(one, times), power)
                    power = slow_product(power, one)
        self.assertEqual(poly_power(ZERO, 0), constant(5, 2, 1))
        self.assertEqual(poly_power(ZERO, 120), ZERO)
        self.assertEqual(poly_power(constant(5, 2, 2), 120), constant(5, 2, pow(2, 120, 5)))
        self.assertEqual(poly_power(letter(5, 2, 0), 120).terms, {(120, 0): 1})
        self.assertEqual(poly_power(Poly(2, 12, {row: 1 for row in all_rows(12, 1)}), 64).terms,
                         {tuple(64 * e for e in row): 1 for row in all_rows(12, 1)})

    def test_too_high(self):
        high = Poly(5, 2, {(40, 21): 1})
        self.refused(("TooMany", 120), poly_product, high, Poly(5, 2, {(0, 60): 1, (0, 0): 1}))
        self.assertEqual(poly_product(high, Poly(5, 2, {(0, 59): 2})).terms, {(40, 80): 2})
        self.assertEqual(poly_product(high, ZERO), ZERO)
        self.refused(("TooMany", 120), poly_power, high, 2)
        last = Poly(5, 2, {(0, 100): 1})
        self.refused(("TooMany", 120), poly_product, last, last)
        self.refused(("TooMany", 120), poly_power, last, 2)
        self.refused(("TooMany", 120), poly_product, Poly(5, 2, {(0, 120): 1}), Poly(5, 2, {(0, 1): 1}))
        self.assertEqual(poly_product(ZERO, Poly(5, 2, {(0, 120): 1})), ZERO)
        self.refused(("TooMany", 120), poly_power, Poly(2, 1, {(2,): 1}), 61)
        self.assertEqual(poly_power(Poly(2, 1, {(2,): 1}), 60).degree, 120)

    def test_values(self):
        for prime, wide in ((2, 1), (3, 2), (5, 3)):
            for one in some_polys(prime, wide):
                for point in all_points(prime, wide):
                    self.assertEqual(value_at(one, point), slow_value(one, point))
        one = some_poly(97, 3, 120, 4)
        for point in ([-1, 200, 10 ** 20], (96, 6, 10 ** 20 % 97)):
            self.assertEqual(value_at(one=one, point=point), slow_value(one, point))
        self.assertEqual(value_at(ZERO, [1, 2]), 0)
        self.assertEqual(value_at(constant(5, 2, 3), [0, 0]), 3)

    def test_layers(self):
        for one in some_polys(7, 3):
            self.assertEqual(is_level(one), len({sum(row) for row in one.terms}) < 2)
            total = Poly(7, 3, {})
            for degree in range(7):
                layer = layer_of(one, degree)
                self.assertEqual(layer.terms, {row: n for row, n in one.terms.items() if sum(row) == degree})
                self.assertTrue(is_level(layer))
                total = poly_sum(total, layer)
            self.assertEqual(total, one)
        self.assertIs(is_level(ZERO), True)
        self.assertIs(is_level(Poly(5, 2, {(0, 1): 1, (0, 0): 1})), False)
        self.assertEqual(layer_of(one=letter(5, 2, 0), degree=120), ZERO)

    def test_unchanged(self):
        one, other = level_poly(5, 2, 3, 1), some_poly(5, 2, 4, 2)
        for call, args in ((poly_sum, (one, other)), (poly_product, (one, other)), (poly_scaled, (one, 3)),
                           (poly_power, (one, 3)), (value_at, (one, [7, -1])), (is_level, (one,)),
                           (layer_of, (one, 3))):
            self.unchanged(call, *args)


class WrongTest(ToolCase):
    def test_no_polys(self):
        one = letter(5, 2, 0)
        for thing in NO_OBJECTS + (one.terms,):
            for call in (poly_sum, poly_product):
                self.refused(("BadPoly",), call, thing, one)
                self.refused(("BadPoly",), call, one, thing)
            for call in (poly_scaled, poly_power, value_at, layer_of):
                self.refused(("BadPoly",), call, thing, None)
            self.refused(("BadPoly",), is_level, thing)
        for call in (poly_sum, poly_product):
            self.refused(("BadPoly",), call, one, letter(7, 2, 0))
            self.refused(("BadPoly",), call, one, letter(5, 3, 0))
        self.refused(("BadPoly",), poly_product, Poly(5, 2, {(120, 0): 1}), Poly(5, 3, {(120, 0, 0): 1}))

    def test_wrong_numbers(self):
        one = Poly(5, 2, {(40, 40): 1})
        for number in NO_NUMBERS:
            self.refused(("BadNumber", "number"), poly_scaled, one, number)
        for times in (-1, 121) + NO_NUMBERS:
            self.refused(("BadNumber", "times"), poly_power, one, times)
        for degree in (-1, 121) + NO_NUMBERS:
            self.refused(("BadNumber", "degree"), layer_of, one, degree)
        for point in (None, 1, "ab", [1], [1, 2, 3], [1, None], [True, 1], [1, 1.0], {1: 1, 2: 2}, {1, 2}):
            self.refused(("BadPoint",), value_at, one, point)


if __name__ == "__main__":
    unittest.main()
