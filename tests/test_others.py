"""Point [61], unswayed/others.py."""

import unittest

from tests.tools import (
    NO_OBJECTS, ToolCase, all_rows, drawn_table, house, is_slow_unswayed, letters, many_houses, mild_houses,
    slow_product, slow_put, slow_rank, slow_sum, small_houses, some_poly, trivial)
from unswayed.degrees import count_of, unswayed_of
from unswayed.freelots import free_lot
from unswayed.houses import house_led, is_mild
from unswayed.leadings import led
from unswayed.means import mean
from unswayed.others import are_others, others_of, told_over
from unswayed.polys import Poly, constant, is_level, poly_power, poly_product, poly_scaled, poly_sum
from unswayed.rowsfar import row_over
from unswayed.solving import inverse
from unswayed.tables import plain

H = house(5, [[4, 0], [0, 4]])
X, Y = letters(5, 2)
XX, YY, XY = poly_product(X, X), poly_product(Y, Y), poly_product(X, Y)
SHEAR = small_houses()["shear 3 2"]
SHEAR_LOT = free_lot(SHEAR)


def slow_told(told, lot, several):
    total = Poly(lot[0].prime, lot[0].wide, {})
    for part, item in zip(told, several):
        total = slow_sum(total, slow_product(slow_put(part, lot), item))
    return total


def degrees_of(polys):
    return [poly.degree for poly in polys]


def products_of_degree(lot, several, degree):
    """All products of one of several and Polys of the lot that have this degree."""
    found = []
    for item in several:
        for most in range(degree + 1):
            for row in all_rows(len(lot), most):
                if sum(e * f.degree for e, f in zip(row, lot)) + item.degree == degree:
                    found.append(slow_product(slow_put(Poly(item.prime, len(lot), {row: 1}), lot), item))
    return found


class OthersTest(ToolCase):
    def test_many_houses(self):
        for name, one in mild_houses().items():
            lot = free_lot(one)
            found = self.unchanged(others_of, one, lot)
            self.assertIsInstance(found, list)
            self.assertTrue(all(is_level(each) for each in found))
            if one.size < 20:
                self.assertTrue(all(is_slow_unswayed(one, each) for each in found), name)
            degrees = degrees_of(found)
            self.assertEqual(degrees, sorted(degrees))
            product = 1
            for poly in lot:
                product *= poly.degree
            self.assertEqual(len(found) * one.size, product, name)
            self.assertEqual(degrees[:2].count(0), 1)
            top = sum(degrees_of(lot)) - one.wide
            self.assertLessEqual(degrees[-1], top)
            counts = row_over(one, degrees_of(lot))
            self.assertEqual([degrees.count(at) for at in range(len(counts))], list(counts), name)
            self.assertEqual(max(degrees), len(counts) - 1)
            self.assertIs(are_others(one, lot, found), True)

    def test_each_unswayed_poly_is_told_in_one_way(self):
        for name, one in mild_houses().items():
            lot = free_lot(one)
            found = others_of(one, lot)
            for degree in range(1, 7 if one.wide < 3 else 5):
                rows = all_rows(one.wide, degree)
                products = products_of_degree(lot, found, degree)
                lines = [[poly.terms.get(row, 0) for row in rows] for poly in products]
                self.assertEqual(len(products), count_of(one, degree), (name, degree))
                self.assertEqual(slow_rank(lines, one.prime), len(products), (name, degree))

    def test_other_lots(self):
        cases = (
            (H, [poly_sum(XX, YY), XY], [0, 2]), (H, [XX, poly_power(Y, 4)], [0, 2, 2, 4]),
            (H, (poly_power(XX, 2), poly_power(YY, 3)), None), (trivial(5, 2), [XX, poly_power(Y, 3)], [0, 1, 1, 2, 2, 3]),
            (trivial(5, 1), [poly_power(letters(5, 1)[0], 120)], list(range(120))))
        for one, lot, degrees in cases:
            found = others_of(house=one, lot=lot)
            self.assertEqual(degrees_of(found), degrees or degrees_of(found))
            self.assertIs(are_others(one, lot, tuple(found[::-1])), True)
            self.assertEqual(others_of(one, list(lot)), found)

    def test_degrees_above_120(self):
        a, b = letters(97, 2)
        one = trivial(97, 2)
        lot = [poly_power(a, 61), poly_power(b, 61)]
        found = others_of(one, lot)
        self.assertEqual((len(found), found[-1].degree), (3721, 120))
        self.assertIs(are_others(one, lot, found), True)
        for lot in ([poly_power(a, 61), poly_power(b, 62)], [poly_power(a, 120), poly_power(b, 120)]):
            self.refused(("TooMany", 120), others_of, one, lot)
            self.assertIs(are_others(one, lot, found), False)
            self.refused(("BadOthers",), told_over, one, lot, found, a)
        self.assertEqual(degrees_of(others_of(one, [poly_power(a, 120), b])), list(range(120)))
        # The top is above 120, the degrees of others are not.
        far = house(97, [[96, 0], [0, 96]])
        found = others_of(far, [poly_power(a, 62), poly_power(b, 60)])
        self.assertEqual((found[-1].degree, len(found)), (120, 1860))

    def test_degrees_up_to_23_in_3_unknowns(self):
        x, y, z = letters(5, 3)
        one = house(5, [[4, 0, 0], [0, 4, 0], [0, 0, 1]])
        lot = [poly_power(x, 8), poly_power(y, 8), poly_power(z, 9)]
        found = others_of(one, lot)
        self.assertEqual((len(found), found[-1].degree), (288, 22))
        self.assertIs(are_others(one, lot, found), True)
        poly = mean(one, some_poly(5, 3, 23, 4, 30))
        self.assertEqual(slow_told(told_over(one, lot, found, poly), lot, found), poly)

    def test_by_hand(self):
        lot = [XX, YY]
        self.assertEqual(others_of(H, lot)[0].degree, 0)
        self.assertEqual(others_of(H, lot)[1].terms.keys(), XY.terms.keys())
        several = [constant(5, 2, 1), XY]
        poly = poly_sum(poly_product(XX, XY), poly_scaled(YY, 3))
        told = told_over(house=H, lot=lot, several=several, poly=poly)
        self.assertEqual([each.terms for each in told], [{(0, 1): 3}, {(1, 0): 1}])
        self.assertIs(are_others(H, [poly_sum(XX, YY), XY], [constant(5, 2, 1), XX]), True)

    def test_errors_in_their_sequence(self):
        for call, more in ((others_of, ()), (are_others, (None,)), (told_over, (None, X))):
            for thing in NO_OBJECTS:
                self.refused(("BadHouse", None), call, thing, None, *more)
            for name, one in many_houses().items():
                if not is_mild(one):
                    self.refused(("NoMean",), call, one, None, *more)
            self.refused(("NoMean",), call, SHEAR, SHEAR_LOT, *more)
            for lot in NO_OBJECTS + ([XX], [XX, XX], [XX, XY], [X, Y], "xy", [YY, None]):
                self.refused(("BadLot",), call, H, lot, *more)
            x, y, z = letters(5, 3)
            self.refused(("TooMany", 300), call, trivial(5, 3), [poly_power(x, 24), y, y], *more)
            self.refused(("TooMany", 300), call, trivial(5, 3), [poly_power(x, 24), y, z], *more)
            self.refused(("BadLot",), call, trivial(5, 3), [poly_power(x, 23), y, y], *more)
        for thing in NO_OBJECTS:
            self.refused(("BadPoly",), told_over, SHEAR, None, None, thing)
            self.refused(("BadHouse", None), told_over, plain(5, 2), None, None, thing)


class AreOthersTest(ToolCase):
    def test_any_value(self):
        one, lot = H, [XX, YY]
        good = [constant(5, 2, 1), XY]
        for thing in (good, tuple(good), good[::-1], [constant(5, 2, 3), poly_scaled(XY, 2)],
                      [poly_sum(poly_sum(XY, XX), YY), constant(5, 2, 4)]):
            self.assertIs(self.unchanged(are_others, one, lot, thing), True)
        other = letters(3, 2)
        wrong = NO_OBJECTS + (
            [constant(5, 2, 1)], [XY], good + [XY], [XY, XY], good + [constant(5, 2, 1)], [constant(5, 2, 0), XY],
            [constant(5, 2, 1), XX], [constant(5, 2, 1), poly_sum(XX, YY)], [constant(5, 2, 1), poly_product(XX, XY)],
            [constant(5, 2, 1), X], [constant(5, 2, 1), poly_sum(XY, constant(5, 2, 1))], [1, XY], [True, XY],
            [constant(5, 2, 1), XY, None], [constant(3, 2, 1), poly_product(*other)], good + [constant(5, 2, 0)],
            [constant(5, 3, 1), poly_product(*letters(5, 3)[:2])], {0: 1}, "ab", XY)
        for thing in wrong:
            self.assertIs(are_others(one, lot, thing), False)
        self.assertIs(are_others(house=one, lot=lot, thing=good), True)

    def test_changed_ones(self):
        for name, one in mild_houses().items():
            lot = free_lot(one)
            found = others_of(one, lot)
            # With sums of multiples of products of the lot and lower ones, they are others again.
            changed = []
            for each in found:
                lower = products_of_degree(lot, [item for item in found if item.degree < each.degree], each.degree)
                for at, product in enumerate(lower[:3]):
                    each = poly_sum(each, poly_scaled(product, at + 1))
                changed.append(poly_scaled(each, one.prime - 1))
            self.assertIs(are_others(one, lot, changed[::-1]), True, name)
            self.assertIs(are_others(one, lot, found[1:]), False)
            self.assertIs(are_others(one, lot, found + found[-1:]), False)
            if len(found) > 1:
                self.assertIs(are_others(one, lot, found[:-1] + found[:1]), False)
                degree = found[-1].degree
                lower = products_of_degree(lot, found[:-1], degree)
                same = [product for product in lower if product.degree == degree][:1]
                self.assertIs(are_others(one, lot, found[:-1] + (same or [constant(one.prime, one.wide, 0)])), False, name)

    def test_other_coordinates(self):
        for name, one in mild_houses().items():
            lot = free_lot(one)
            found = others_of(one, lot)
            g = drawn_table(one.prime, one.wide, name)
            other = house_led(one, g)
            back = inverse(g)
            found_there = [led(poly, back) for poly in found]
            self.assertIs(are_others(other, [led(poly, back) for poly in lot], found_there), True, name)


class ToldTest(ToolCase):
    def test_many_houses(self):
        for name, one in mild_houses().items():
            lot = free_lot(one)
            found = others_of(one, lot)
            top = max(degrees_of(lot))
            for seed in range(3):
                poly = mean(one, some_poly(one.prime, one.wide, min(top + 3, 20), f"{name} {seed}"))
                poly = poly_sum(poly, poly_sum(lot[0], found[-1]))
                told = self.unchanged(told_over, one, lot, found, poly)
                self.assertEqual(len(told), len(found))
                self.assertTrue(all(part.wide == one.wide and part.prime == one.prime for part in told))
                self.assertEqual(slow_told(told, lot, found), poly, name)

    def test_what_was_told_comes_back(self):
        for name, one in mild_houses().items():
            lot = free_lot(one)
            found = others_of(one, lot)[::-1]
            parts = [some_poly(one.prime, one.wide, 2, at, 3) for at in range(len(found))]
            total = slow_told(parts, lot, found)
            if total.degree <= (120 if one.wide < 3 else 23):
                self.assertEqual(told_over(one, lot, found, total), parts, name)

    def test_polys_of_few_degrees(self):
        for one in (H, house(7, [[2]]), small_houses()["exchanges 5 3"]):
            lot = free_lot(one)
            found = others_of(one, lot)
            none = constant(one.prime, one.wide, 0)
            self.assertEqual(told_over(one, lot, found, none), [none] * len(found))
            six = constant(one.prime, one.wide, 6)
            self.assertEqual(told_over(one, lot, found, six)[0].degree, 0)
            for poly in unswayed_of(one, 6):
                self.assertEqual(slow_told(told_over(one, lot, found, poly), lot, found), poly)

    def test_errors(self):
        lot, several = [XX, YY], [constant(5, 2, 1), XY]
        for wrong in NO_OBJECTS + ([XY], several + [XY], [constant(5, 2, 1), X]):
            self.refused(("BadOthers",), told_over, H, lot, wrong, letters(3, 3)[0])
        for poly in (letters(3, 2)[0], letters(5, 3)[0], letters(5, 1)[0]):
            self.refused(("BadPoly",), told_over, H, lot, several, poly)
        for poly in (X, poly_sum(XX, Y), poly_power(X, 119)):
            self.refused(("Swayed",), told_over, H, lot, several, poly)
        x, y, z = letters(5, 3)
        one = house(5, [[1, 0, 0], [0, 1, 0], [0, 0, 4]])
        lot = [x, y, poly_product(z, z)]
        ones = [constant(5, 3, 1)]
        self.refused(("TooMany", 300), told_over, one, lot, ones, poly_power(x, 24))
        self.refused(("TooMany", 300), told_over, one, lot, ones, poly_sum(x, poly_power(x, 120)))
        self.refused(("Swayed",), told_over, one, lot, ones, poly_sum(z, poly_power(x, 120)))
        self.refused(("BadOthers",), told_over, one, lot, [x], poly_power(x, 24))
        self.assertEqual(told_over(one, lot, ones, poly_power(x, 23)), [poly_power(x, 23)])
        far = poly_sum(poly_power(X, 120), poly_power(Y, 118))
        self.assertEqual([part.terms for part in told_over(H, [XX, YY], several, far)], [{(60, 0): 1, (0, 59): 1}, {}])


if __name__ == "__main__":
    unittest.main()
