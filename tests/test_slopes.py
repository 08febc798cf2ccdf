"""Point [77], unswayed/slopes.py."""

import itertools
import unittest

from tests.tools import (
    NO_OBJECTS, ToolCase, letters, level_poly, many_houses, slow_determinant, slow_led, slow_product, slow_sum,
    some_poly)
from unswayed.degrees import unswayed_of
from unswayed.mirrors import wall_product
from unswayed.polys import Poly, constant, poly_power, poly_product, poly_scaled, poly_sum
from unswayed.putting import put_in, slope
from unswayed.slopes import divided, slope_determinant


def slow_slopes(polys):
    """The determinant of the slopes, along the first line."""
    def along(lines):
        if not lines:
            return constant(polys[0].prime, len(polys), 1)
        total = constant(polys[0].prime, len(polys), 0)
        for at, poly in enumerate(lines[0]):
            part = slow_product(poly, along([line[:at] + line[at + 1:] for line in lines[1:]]))
            total = slow_sum(total, poly_scaled(part, (-1) ** at))
        return total

    return along([[slope(poly, spot) for spot in range(len(polys))] for poly in polys])


class SlopeDeterminantTest(ToolCase):
    def test_second_way(self):
        for prime in (2, 3, 5, 97):
            for wide in (1, 2, 3):
                for seed in range(4):
                    polys = [some_poly(prime, wide, 6, f"{seed} {at}") for at in range(wide)]
                    self.assertEqual(self.unchanged(slope_determinant, polys), slow_slopes(polys))
                    self.assertEqual(slope_determinant(tuple(polys)), slow_slopes(polys))

    def test_polys_put_in(self):
        for prime in (2, 3, 7):
            for wide in (1, 2, 3):
                for seed in range(3):
                    polys = [some_poly(prime, wide, 3, f"{seed} {at}", 3) for at in range(wide)]
                    others = [some_poly(prime, wide, 3, f"{seed} {at} more", 3) for at in range(wide)]
                    self.assertEqual(
                        slope_determinant([put_in(poly, others) for poly in polys]),
                        poly_product(slope_determinant(others), put_in(slope_determinant(polys), others)))

    def test_unswayed_polys(self):
        seen = 0
        for name, one in many_houses().items():
            found = [poly for degree in range(1, 7 if one.wide < 3 else 5) for poly in unswayed_of(one, degree)[:2]]
            lots = list(itertools.combinations(found, one.wide))
            product = wall_product(one)
            for lot in lots[::max(1, len(lots) // 8)]:
                d = slope_determinant(lot)
                for g in one.few:
                    self.assertEqual(poly_scaled(slow_led(d, g), slow_determinant(g.lines)), d, name)
                factor = divided(d, product)
                self.assertIsNotNone(factor, name)
                self.assertEqual(slow_product(factor, product), d)
                seen += d.degree >= 0
        self.assertGreater(seen, 50)

    def test_by_hand(self):
        x, y = letters(5, 2)
        self.assertEqual(slope_determinant(polys=[poly_product(x, x), poly_product(x, y)]).terms, {(2, 0): 2})
        self.assertEqual(slope_determinant([x, y]), constant(5, 2, 1))
        self.assertEqual(slope_determinant([y, x]), constant(5, 2, 4))
        self.assertEqual(slope_determinant([x, x]), constant(5, 2, 0))
        self.assertEqual(slope_determinant([poly_power(letters(5, 1)[0], 5)]).terms, {})
        self.assertEqual(slope_determinant([Poly(5, 1, {})]).terms, {})

    def test_products_above_120(self):
        x, y = letters(5, 2)
        high, low = poly_power(x, 119), poly_power(y, 3)
        self.assertEqual(slope_determinant([high, low]).terms, {(118, 2): 119 * 3 % 5})
        self.refused(("TooMany", 120), slope_determinant, [high, poly_power(y, 4)])
        # A factor without terms makes its product vanish, however high the others are.
        self.assertEqual(slope_determinant([high, poly_power(x, 119)]).terms, {})
        self.assertEqual(slope_determinant([high, poly_power(y, 5)]).terms, {})
        # Two products that are too high count, even where their sum is 0.
        both = poly_product(poly_power(x, 61), poly_power(y, 32))
        self.refused(("TooMany", 120), slope_determinant, [both, both])
        a, b, c = letters(3, 3)
        self.assertEqual(slope_determinant([poly_power(a, 40), poly_power(b, 41), poly_power(c, 41)]).degree, 119)
        self.refused(("TooMany", 120), slope_determinant, [poly_power(a, 41), poly_power(b, 41), poly_power(c, 43)])

    def test_wrong_inputs(self):
        x, y = letters(5, 2)
        a, b, c = letters(5, 3)
        wrong = NO_OBJECTS + (
            [x], [x, y, x], [a, b], [a, b, c, a], [x, None], [x, letters(3, 2)[1]], [x, a], "xy", {0: x, 1: y}, x,
            letters(5, 4), [letters(5, 1)[0], y])
        for thing in wrong:
            self.refused(("BadPoly",), slope_determinant, thing)


class DividedTest(ToolCase):
    def test_products(self):
        for prime in (2, 3, 97):
            for wide in (1, 2, 3, 5, 12):
                for seed in range(4):
                    one, other = [some_poly(prime, wide, 8, f"{seed} {at}") for at in range(2)]
                    product = slow_product(one, other)
                    if other.terms:
                        self.assertEqual(self.unchanged(divided, product, other), one)
                        more = poly_sum(product, constant(prime, wide, 1))
                        found = divided(more, other)
                        if found is not None:
                            self.assertEqual(slow_product(found, other), more)
                        elif other.degree == 0:
                            self.fail("a number divides all")

    def test_what_is_no_multiple(self):
        # The Polys of at most this degree whose product with other is one, all tried.
        for other in ({(1, 0): 1, (0, 1): 1}, {(1, 1): 1}, {(2, 0): 1, (0, 2): 1}, {(0, 0): 1, (1, 0): 1}):
            other = Poly(2, 2, other)
            rows = [(i, j) for i in range(2) for j in range(2)]
            products = {}
            for numbers in itertools.product(range(2), repeat=4):
                factor = Poly(2, 2, dict(zip(rows, numbers)))
                products[tuple(slow_product(factor, other).terms)] = factor
            for seed in range(60):
                one = some_poly(2, 2, 3, seed, 3)
                found = divided(one, other)
                if found is None or max([max(row) for row in found.terms], default=0) <= 1:
                    self.assertEqual(found, products.get(tuple(one.terms)))

    def test_by_hand(self):
        x, y = letters(5, 2)
        squares = poly_sum(poly_product(x, x), poly_scaled(poly_product(y, y), 4))
        self.assertEqual(divided(one=squares, other=poly_sum(x, y)), poly_sum(x, poly_scaled(y, 4)))
        self.assertIsNone(divided(squares, x))
        self.assertIsNone(divided(constant(5, 2, 1), x))
        self.assertIsNone(divided(x, squares))
        self.assertEqual(divided(constant(5, 2, 0), squares), constant(5, 2, 0))
        self.assertEqual(divided(squares, constant(5, 2, 2)), poly_scaled(squares, 3))
        self.assertEqual(divided(squares, squares), constant(5, 2, 1))
        high = poly_product(poly_power(x, 60), poly_power(y, 60))
        self.assertEqual(divided(high, poly_power(y, 60)), poly_power(x, 60))
        self.assertIsNone(divided(poly_power(x, 120), poly_power(y, 120)))
        dense = level_poly(97, 3, 20, 3)
        self.assertEqual(divided(poly_product(dense, dense), dense), dense)

    def test_wrong_inputs(self):
        x, y = letters(5, 2)
        for thing in NO_OBJECTS:
            self.refused(("BadPoly",), divided, thing, x)
            self.refused(("BadPoly",), divided, x, thing)
        for other in (letters(3, 2)[0], letters(5, 3)[0], constant(5, 2, 0)):
            self.refused(("BadPoly",), divided, x, other)
        self.refused(("BadPoly",), divided, constant(5, 2, 0), constant(5, 2, 0))
        self.assertEqual(divided(poly_product(x, y), x), y)


if __name__ == "__main__":
    unittest.main()
