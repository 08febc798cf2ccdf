"""Point [92], unswayed/tollrows.py."""

import unittest
from math import comb

from tests.test_others import degrees_of, products_of_degree, slow_told
from tests.tools import (
    NO_NUMBERS, NO_OBJECTS, ToolCase, all_rows, house, letters, many_houses, mild_houses, slow_rank, small_houses,
    some_poly, trivial)
from unswayed.freelots import free_lot
from unswayed.houses import is_mild
from unswayed.others import are_others, others_of
from unswayed.polys import constant, poly_power, poly_product, poly_scaled, poly_sum
from unswayed.rowsfar import count_far, row_of, turned_row
from unswayed.tollrows import are_toll_others, told_toll, toll_far, toll_others, toll_row
from unswayed.tolls import determinant_toll, is_tolled, toll_back, toll_mean, toll_product, tolled_of, tolls_of, untolled

H = house(5, [[4, 0], [0, 4]])
X, Y = letters(5, 2)
LOT = [poly_product(X, X), poly_product(Y, Y)]
ODD = (1, 4)
SHEAR = small_houses()["shear 3 2"]


def some_tolls(one, many=3):
    tolls = tolls_of(one)
    return tolls[::max(1, len(tolls) // many)][-many:]


class TollRowTest(ToolCase):
    def test_second_way(self):
        for name, one in mild_houses().items():
            for toll in some_tolls(one):
                period, tops = self.unchanged(toll_row, one, toll)
                self.assertEqual(period, row_of(one)[0])
                self.assertTrue(tops and tops[-1] != 0)
                for degree in range(12 if one.wide < 3 else 6):
                    told = sum(
                        number * comb((degree - at) // period + one.wide - 1, one.wide - 1)
                        for at, number in enumerate(tops) if at <= degree and (degree - at) % period == 0)
                    self.assertEqual(told, len(tolled_of(one, toll, degree)), (name, toll, degree))
                    self.assertEqual(toll_far(one, toll, degree), told)

    def test_tops(self):
        for name, one in mild_houses().items():
            tolls = tolls_of(one)
            ones = (1,) * one.size
            rows = {toll: toll_row(one, toll) for toll in tolls}
            self.assertEqual(rows[ones], row_of(one))
            self.assertEqual(rows[toll_back(one, determinant_toll(one))], turned_row(one), name)
            for toll in tolls:
                period, tops = rows[toll]
                last = one.wide * (period - 1)
                self.assertEqual(sum(tops), period ** one.wide // one.size, name)
                self.assertLessEqual(len(tops), last + 1)
                other = toll_back(one, toll_product(one, toll, determinant_toll(one)))
                more = rows[other][1]
                for at in range(last + 1):
                    there = more[last - at] if last - at < len(more) else 0
                    self.assertEqual(tops[at] if at < len(tops) else 0, there, name)
            for degree in (0, 1, 2, 3, 10, 47, 1000, 10 ** 12):
                total = sum(toll_far(one, toll, degree) for toll in tolls) if one.size < 24 else None
                if total is not None:
                    self.assertEqual(total, count_far(untolled(one), degree), name)

    def test_by_hand(self):
        self.assertEqual(toll_row(house=H, toll=ODD), (2, (0, 2)))
        self.assertEqual(toll_far(house=H, toll=ODD, degree=10 ** 30 + 1), 10 ** 30 + 2)
        self.assertEqual(toll_far(H, ODD, 10 ** 30), 0)
        self.assertEqual(toll_far(trivial(5, 3), (1,), 10 ** 30), (10 ** 30 + 2) * (10 ** 30 + 1) // 2)
        scales = house(97, [[25]])
        self.assertEqual([toll_row(scales, toll)[1].index(1) for toll in tolls_of(scales)][:1], [0])
        self.assertEqual(sorted(len(toll_row(scales, toll)[1]) for toll in tolls_of(scales)), list(range(1, 49)))

    def test_errors(self):
        for call, more in ((toll_row, ()), (toll_far, (None,))):
            for thing in NO_OBJECTS:
                self.refused(("BadHouse", None), call, thing, None, *more)
            self.refused(("NoMean",), call, SHEAR, None, *more)
            for toll in NO_OBJECTS + ([1, 1], (1, 2), (True, 1), (1,)):
                self.refused(("BadToll",), call, H, toll, *more)
        for degree in (-1, -10 ** 30) + NO_NUMBERS:
            self.refused(("BadNumber", "degree"), toll_far, H, ODD, degree)


class TollOthersTest(ToolCase):
    def test_many_houses(self):
        for name, one in mild_houses().items():
            lot = free_lot(one)
            product = 1
            for poly in lot:
                product *= poly.degree
            for toll in some_tolls(one):
                found = self.unchanged(toll_others, one, lot, toll)
                self.assertIsInstance(found, list)
                self.assertTrue(all(is_tolled(one, toll, each) for each in found), name)
                self.assertEqual(degrees_of(found), sorted(degrees_of(found)))
                self.assertEqual(len(found) * one.size, product, name)
                self.assertIs(are_toll_others(one, lot, toll, found), True)
                self.assertIs(are_toll_others(one, lot, toll, tuple(found[::-1])), True)
                self.assertIs(are_toll_others(one, lot, toll, found[1:]), False)
                self.assertIs(are_toll_others(one, lot, toll, found + found[:1]), False)
                for other in tolls_of(one)[:3]:
                    self.assertIs(are_toll_others(one, lot, other, found), other == toll, name)

    def test_each_tolled_poly_is_told_in_one_way(self):
        for name, one in mild_houses().items():
            lot = free_lot(one)
            for toll in some_tolls(one, 2):
                found = toll_others(one, lot, toll)
                for degree in range(6 if one.wide < 3 else 5):
                    rows = all_rows(one.wide, degree)
                    products = products_of_degree(lot, found, degree)
                    lines = [[poly.terms.get(row, 0) for row in rows] for poly in products]
                    self.assertEqual(len(products), len(tolled_of(one, toll, degree)), (name, degree))
                    self.assertEqual(slow_rank(lines, one.prime), len(products), (name, degree))

    def test_the_toll_of_ones(self):
        for name, one in mild_houses().items():
            lot = free_lot(one)
            found = toll_others(one, lot, (1,) * one.size)
            self.assertIs(are_others(one, lot, found), True, name)
            self.assertIs(are_toll_others(one, lot, (1,) * one.size, others_of(one, lot)), True, name)

    def test_by_hand(self):
        self.assertEqual(sorted(list(each.terms)[0] for each in toll_others(house=H, lot=LOT, toll=ODD)), [(0, 1), (1, 0)])
        self.assertIs(are_toll_others(house=H, lot=LOT, toll=ODD, thing=[Y, X]), True)
        told = told_toll(house=H, lot=LOT, toll=ODD, several=[Y, X], poly=poly_sum(poly_power(X, 3), poly_product(X, LOT[1])))
        self.assertEqual([each.terms for each in told], [{}, {(1, 0): 1, (0, 1): 1}])

    def test_degrees_above_120(self):
        lot = [poly_power(X, 60), poly_power(Y, 62)]
        found = toll_others(H, lot, ODD)
        self.assertEqual((len(found), found[-1].degree), (1860, 119))
        self.assertIs(are_toll_others(H, lot, ODD, found), True)
        self.assertEqual(toll_others(H, lot, (1, 1))[-1].degree, 120)
        lot = [poly_power(X, 62), poly_power(Y, 62)]
        self.refused(("TooMany", 120), toll_others, H, lot, ODD)
        self.refused(("TooMany", 120), toll_others, H, lot, (1, 1))
        self.assertIs(are_toll_others(H, lot, ODD, found), False)
        self.refused(("BadOthers",), told_toll, H, lot, ODD, found, X)

    def test_any_value(self):
        for thing in ([X, Y], (Y, X), [poly_sum(X, Y), poly_scaled(Y, 3)], [X, poly_sum(Y, poly_scaled(X, 2))]):
            self.assertIs(self.unchanged(are_toll_others, H, LOT, ODD, thing), True)
        one = constant(5, 2, 1)
        wrong = NO_OBJECTS + (
            [X], [X, X], [X, Y, X], [X, poly_product(X, Y)], [one, poly_product(X, Y)], [X, poly_power(Y, 3)], [X, None],
            [X, poly_sum(Y, one)], [X, letters(3, 2)[1]], [X, letters(5, 3)[1]], [X, Y, constant(5, 2, 0)], "xy", {0: X}, X)
        for thing in wrong:
            self.assertIs(are_toll_others(H, LOT, ODD, thing), False)
            self.refused(("BadOthers",), told_toll, H, LOT, ODD, thing, letters(3, 3)[0])


class ToldTollTest(ToolCase):
    def test_many_houses(self):
        for name, one in mild_houses().items():
            lot = free_lot(one)
            for toll in some_tolls(one, 2):
                found = toll_others(one, lot, toll)[::-1]
                poly = toll_mean(one, toll, some_poly(one.prime, one.wide, 7, name))
                poly = poly_sum(poly, poly_product(found[0], lot[0]))
                told = self.unchanged(told_toll, one, lot, toll, found, poly)
                self.assertEqual(slow_told(told, lot, found), poly, name)
                none = constant(one.prime, one.wide, 0)
                self.assertEqual(told_toll(one, lot, toll, found, none), [none] * len(found))

    def test_errors_in_their_sequence(self):
        for call, more in ((toll_others, ()), (are_toll_others, (None,)), (told_toll, (None, X))):
            for thing in NO_OBJECTS:
                self.refused(("BadHouse", None), call, thing, None, None, *more)
            for name, one in many_houses().items():
                if not is_mild(one):
                    self.refused(("NoMean",), call, one, None, None, *more)
            for lot in NO_OBJECTS + (LOT[:1], [LOT[0], LOT[0]], [X, Y]):
                self.refused(("BadLot",), call, H, lot, None, *more)
            x, y, _ = letters(5, 3)
            self.refused(("TooMany", 300), call, trivial(5, 3), [poly_power(x, 24), y, y], None, *more)
            for toll in NO_OBJECTS + ([1, 4], (1, 2), (1, True)):
                self.refused(("BadToll",), call, H, LOT, toll, *more)
        for thing in NO_OBJECTS:
            self.refused(("BadPoly",), told_toll, SHEAR, None, None, None, thing)
        for poly in (letters(3, 2)[0], letters(5, 3)[0]):
            self.refused(("BadPoly",), told_toll, H, LOT, ODD, [X, Y], poly)
        for poly in (LOT[0], poly_sum(X, LOT[0]), constant(5, 2, 1)):
            self.refused(("Swayed",), told_toll, H, LOT, ODD, [X, Y], poly)
        x, y, z = letters(5, 3)
        one = house(5, [[1, 0, 0], [0, 1, 0], [0, 0, 4]])
        toll = tolls_of(one)[1]
        lot = [x, y, poly_product(z, z)]
        self.refused(("TooMany", 300), told_toll, one, lot, toll, [z], poly_power(z, 25))
        self.refused(("Swayed",), told_toll, one, lot, toll, [z], poly_power(z, 24))
        self.assertEqual(told_toll(one, lot, toll, [z], poly_power(z, 23))[0].terms, {(0, 0, 11): 1})


if __name__ == "__main__":
    unittest.main()
