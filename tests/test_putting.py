"""Point [21], unswayed/putting.py."""

import unittest

from tests.tools import NO_NUMBERS, NO_OBJECTS, ToolCase, all_points, slow_product, slow_sum, some_poly
from unswayed.polys import Poly, constant, letter, poly_power, poly_product, poly_scaled, poly_sum, value_at
from unswayed.putting import put_in, slope


def slow_put(one, others):
    total = Poly(one.prime, others[0].wide, {})
    for row, number in one.terms.items():
        part = constant(one.prime, others[0].wide, number)
        for other, exponent in zip(others, row):
            for _ in range(exponent):
                part = slow_product(part, other)
        total = slow_sum(total, part)
    return total


class PutTest(ToolCase):
    def test_second_way(self):
        for prime, wide, other_wide in ((2, 1, 2), (3, 2, 1), (5, 2, 2), (7, 3, 2), (97, 2, 3), (2, 3, 12)):
            for seed in range(6):
                one = some_poly(prime, wide, 6, seed)
                others = [some_poly(prime, other_wide, degree, seed + degree, 3) for degree in range(wide)]
                self.assertEqual(put_in(one, others), slow_put(one, others))

    def test_values(self):
        one = some_poly(5, 3, 7, 1)
        others = [some_poly(5, 2, 3, seed) for seed in range(3)]
        both = self.unchanged(put_in, one, others)
        for point in all_points(5, 2):
            self.assertEqual(value_at(both, point), value_at(one, [value_at(other, point) for other in others]))

    def test_letters_change_nothing(self):
        for wide in (1, 2, 12):
            one = some_poly(5, wide, 120, wide)
            self.assertEqual(put_in(one=one, others=tuple(letter(5, wide, k) for k in range(wide))), one)

    def test_by_hand(self):
        a, b = letter(5, 2, 0), letter(5, 2, 1)
        one = poly_sum(poly_product(a, a), poly_scaled(b, 3))
        x = letter(5, 1, 0)
        self.assertEqual(put_in(one, [x, poly_power(x, 2)]).terms, {(2,): 4})
        self.assertEqual(put_in(Poly(5, 2, {}), [x, x]), Poly(5, 1, {}))
        self.assertEqual(put_in(constant(5, 2, 3), [x, Poly(5, 1, {})]), constant(5, 1, 3))

    def test_too_high(self):
        x = letter(5, 1, 0)
        square = poly_power(x, 2)
        one = Poly(5, 2, {(50, 11): 1, (0, 0): 2})
        self.assertEqual(put_in(one, [square, x]).degree, 111)
        self.refused(("TooMany", 120), put_in, one, [square, square])
        self.refused(("TooMany", 120), put_in, Poly(5, 2, {(60, 1): 1}), [square, x])
        self.assertEqual(put_in(Poly(5, 2, {(60, 0): 1}), [square, x]).degree, 120)

    def test_terms_with_a_factor_0_are_not_too_high(self):
        zero, high = Poly(5, 1, {}), Poly(5, 1, {(100,): 1})
        self.assertEqual(put_in(Poly(5, 2, {(1, 5): 1, (0, 1): 2}), [zero, high]).terms, {(100,): 2})
        self.assertEqual(put_in(Poly(5, 2, {(7, 3): 1}), [zero, high]), zero)
        self.refused(("TooMany", 120), put_in, Poly(5, 2, {(0, 2): 1}), [zero, high])
        self.assertEqual(put_in(Poly(5, 2, {(120, 0): 1}), [constant(5, 1, 2), high]), constant(5, 1, pow(2, 120, 5)))

    def test_too_high_even_if_it_would_vanish(self):
        one = Poly(5, 2, {(2, 0): 1, (0, 2): -1})
        high = Poly(5, 1, {(100,): 1})
        self.refused(("TooMany", 120), put_in, one, [high, high])

    def test_wrong(self):
        one, x = letter(5, 2, 0), letter(5, 1, 0)
        for thing in NO_OBJECTS:
            self.refused(("BadPoly",), put_in, thing, [x, x])
        for others in (None, 1, "ab", {}, [], [x], [x, x, x], [x, None], [x, 1], [x, letter(7, 1, 0)],
                       [x, letter(5, 2, 0)], [letter(7, 1, 0)] * 2, {0: x, 1: x}, x):
            self.refused(("BadPoly",), put_in, one, others)


class SlopeTest(ToolCase):
    def test_by_hand(self):
        one = Poly(5, 2, {(3, 1): 2, (5, 0): 1, (0, 4): 3, (0, 0): 4})
        self.assertEqual(slope(one, 0).terms, {(2, 1): 1})
        self.assertEqual(slope(one=one, spot=1).terms, {(3, 0): 2, (0, 3): 2})
        self.assertEqual(slope(Poly(5, 2, {}), 0), Poly(5, 2, {}))

    def test_laws(self):
        for prime, wide in ((2, 1), (3, 2), (97, 3)):
            for seed in range(5):
                one, other = some_poly(prime, wide, 5, seed), some_poly(prime, wide, 4, seed + 50)
                for spot in range(wide):
                    self.assertEqual(slope(poly_sum(one, other), spot), poly_sum(slope(one, spot), slope(other, spot)))
                    left = slope(poly_product(one, other), spot)
                    parts = poly_product(slope(one, spot), other), poly_product(one, slope(other, spot))
                    self.assertEqual(left, poly_sum(*parts))
        self.unchanged(slope, some_poly(5, 3, 5, 1), 2)

    def test_wrong(self):
        for thing in NO_OBJECTS:
            self.refused(("BadPoly",), slope, thing, None)
        for spot in (-1, 2) + NO_NUMBERS:
            self.refused(("BadNumber", "spot"), slope, letter(5, 2, 0), spot)


if __name__ == "__main__":
    unittest.main()
