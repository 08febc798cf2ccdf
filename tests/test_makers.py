"""Point [110], unswayed/makers.py."""

import itertools
import unittest

from tests.tools import (
    NO_OBJECTS, ToolCase, all_rows, drawn_table, house, is_slow_unswayed, letters, many_houses, mild_houses, slow_product,
    slow_put, slow_rank, small_houses, some_poly, trivial)
from unswayed.degrees import count_of, unswayed_of
from unswayed.families import family_house
from unswayed.familylots import family_lot
from unswayed.freelots import free_lot
from unswayed.houses import house_led, is_mild
from unswayed.leadings import led
from unswayed.makers import are_fewest, are_makers, makers_of, written
from unswayed.means import mean
from unswayed.others import others_of
from unswayed.polys import Poly, constant, is_level, poly_power, poly_product, poly_scaled, poly_sum
from unswayed.solving import inverse
from unswayed.tables import plain

H = house(5, [[4, 0], [0, 4]])
X, Y = letters(5, 2)
XX, YY, XY = poly_product(X, X), poly_product(Y, Y), poly_product(X, Y)
LOT = [XX, YY]
SHEAR = small_houses()["shear 3 2"]
SHEAR_LOT = free_lot(SHEAR)
WORDS = (
    ("weights", 7, 6, (1, 5, 2)), ("weights", 7, 3, (1, 1, 2)), ("weights", 13, 12, (1, 5)), ("twin", 5, 3), ("twin", 11, 5),
    ("even", 5, 3), ("round", 13, 7), ("weights", 97, 48, (1, 47)), ("twin", 97, 12), ("round", 97, 24))


def degrees_of(polys):
    return [poly.degree for poly in polys]


def lots_of_mild():
    """Mild houses with free lots of them, by names."""
    found = {name: (one, free_lot(one)) for name, one in mild_houses().items()}
    return {**found, **{str(word): (family_house(word), family_lot(word)) for word in WORDS}}


def products_of(makers, degree):
    """All products of makers of this degree, with the rows of exponents that tell them."""
    found = []
    lists = [range(degree // maker.degree + 1) for maker in makers]
    for row in itertools.product(*lists):
        if sum(e * maker.degree for e, maker in zip(row, makers)) == degree:
            found.append((row, slow_put(Poly(makers[0].prime, len(makers), {row: 1}), makers)))
    return found


def made_at(one, makers, degree):
    """The rank of all products of makers of this degree."""
    rows = all_rows(one.wide, degree)
    return slow_rank([[poly.terms.get(row, 0) for row in rows] for _, poly in products_of(makers, degree)], one.prime)


class MakersTest(ToolCase):
    def test_many_houses(self):
        for name, (one, lot) in lots_of_mild().items():
            found = self.unchanged(makers_of, one, lot)
            self.assertIsInstance(found, list)
            degrees = degrees_of(found)
            self.assertEqual(degrees, sorted(degrees))
            self.assertGreaterEqual(degrees[0], 1)
            self.assertLessEqual(degrees[-1], one.size)
            self.assertLessEqual(degrees[-1], max(degrees_of(lot) + degrees_of(others_of(one, lot))), name)
            self.assertTrue(all(is_level(each) for each in found), name)
            if one.size < 25:
                self.assertTrue(all(is_slow_unswayed(one, each) for each in found), name)
            self.assertIs(are_makers(one, lot, found), True, name)
            self.assertIs(are_fewest(one, lot, found[::-1]), True, name)

    def test_they_make_all_and_none_can_be_left_out(self):
        for name, (one, lot) in lots_of_mild().items():
            found = makers_of(one, lot)
            most = min(one.size, 12 if one.wide < 3 else 6)
            if len(found) <= 7:
                for degree in range(1, most + 1):
                    self.assertEqual(made_at(one, found, degree), count_of(one, degree), (name, degree))
                for at, each in enumerate(found):
                    if each.degree <= most and len(found) > 1:
                        less = found[:at] + found[at + 1:]
                        self.assertLess(made_at(one, less, each.degree), count_of(one, each.degree), name)

    def test_nothing_hangs_on_the_lot(self):
        big = [poly_power(XX, 3), poly_power(YY, 4)]
        for lot in (LOT, [poly_sum(XX, YY), XY], big, tuple(big)):
            self.assertEqual(degrees_of(makers_of(house=H, lot=lot)), [2, 2, 2])
            self.assertIs(are_fewest(H, lot, [XY, XX, YY]), True)
            self.assertEqual(written(H, lot, [XX, XY, YY], XY).terms, {(0, 1, 0): 1})
        a, b = letters(97, 2)
        far = [poly_power(a, 120), poly_power(b, 120)]
        self.assertEqual(degrees_of(makers_of(trivial(97, 2), far)), [1, 1])
        one = house(97, [[96, 0], [0, 96]])
        self.assertEqual(degrees_of(makers_of(one, far)), [2, 2, 2])
        self.assertIs(are_fewest(one, far, [poly_product(a, a), poly_product(b, b), poly_product(a, b)]), True)

    def test_more_than_12_makers(self):
        word = ("weights", 97, 48, (1, 7))
        one, lot = family_house(word), family_lot(word)
        found = makers_of(one, lot)
        self.assertEqual(len(found), 13)
        rows = [(a, b) for a in range(49) for b in range(49) if a + b and (a + 7 * b) % 48 == 0]
        least = [row for row in rows if not any(
            (row[0] - more[0], row[1] - more[1]) in rows for more in rows if more != row)]
        self.assertEqual(degrees_of(found), sorted(sum(row) for row in least))
        self.assertIs(are_fewest(one, lot, [Poly(97, 2, {row: 1}) for row in least]), True)
        self.refused(("TooMany", 12), written, one, lot, found, constant(97, 2, 1))
        self.refused(("Swayed",), written, one, lot, found, letters(97, 2)[0])

    def test_other_coordinates(self):
        for name, (one, lot) in lots_of_mild().items():
            if one.size < 25:
                g = drawn_table(one.prime, one.wide, name)
                back = inverse(g)
                other = house_led(one, g)
                there = [led(poly, back) for poly in lot]
                found = makers_of(one, lot)
                self.assertIs(are_fewest(other, there, [led(poly, back) for poly in found]), True, name)
                self.assertEqual(degrees_of(makers_of(other, there)), degrees_of(found), name)

    def test_errors_in_their_sequence(self):
        calls = (makers_of, ()), (are_makers, (None,)), (are_fewest, (None,)), (written, (None, letters(3, 2)[0]))
        x, y, z = letters(5, 3)
        for call, more in calls:
            for thing in NO_OBJECTS:
                self.refused(("BadHouse", None), call, thing, None, *more)
            for name, one in many_houses().items():
                if not is_mild(one):
                    self.refused(("NoMean",), call, one, None, *more)
            self.refused(("NoMean",), call, SHEAR, SHEAR_LOT, *more)
            for lot in NO_OBJECTS + ([XX], [XX, XX], [XX, XY], [X, Y], "xy", [YY, None]):
                self.refused(("BadLot",), call, H, lot, *more)
            self.refused(("TooMany", 300), call, trivial(5, 3), [poly_power(x, 24), y, y], *more)
            self.refused(("TooMany", 300), call, trivial(5, 3), [poly_power(x, 24), y, z], *more)
            self.refused(("BadLot",), call, trivial(5, 3), [poly_power(x, 23), y, y], *more)


class AreMakersTest(ToolCase):
    def test_any_value(self):
        wrong = NO_OBJECTS + (
            [XX, YY], [XX, XY], [XX, XY, X], [XX, XY, YY, X], [XX, XY, YY, None], [XX, XY, YY, constant(5, 2, 1)],
            [XX, XY, YY, constant(5, 2, 0)], [XX, XY, poly_sum(YY, constant(5, 2, 1))], [XX, XY, poly_sum(XX, XY)],
            [XX, XY, poly_power(YY, 2)], {0: XX, 1: XY, 2: YY}, [XX, XY, poly_product(*letters(3, 2))],
            [XX, XY, YY, poly_product(*letters(5, 3)[:2])], XX, [1, 2, 3], [True], "abc",
            [XX, XY, poly_product(letters(3, 2)[1], letters(3, 2)[1])])
        for call in (are_makers, are_fewest):
            for thing in ([XX, XY, YY], (YY, XX, XY), [poly_scaled(XX, 3), poly_sum(XX, XY), poly_sum(YY, XY)]):
                self.assertIs(self.unchanged(call, H, LOT, thing), True)
            for thing in wrong:
                self.assertIs(call(H, LOT, thing), False)
            self.assertIs(call(house=H, lot=LOT, thing=[XX, XY, YY]), True)
        spare = ([XX, XY, YY, poly_sum(XX, YY)], [XX, XX, XY, YY], [XX, XY, YY, poly_power(XY, 3)],
                 (poly_power(XX, 60), XX, XY, YY))
        for thing in spare:
            self.assertIs(are_makers(H, LOT, thing), True)
            self.assertIs(are_fewest(H, LOT, thing), False)
        far = [XX, XY, poly_power(YY, 60)]
        self.assertIs(are_makers(H, LOT, far), False)

    def test_changed_ones(self):
        for name, (one, lot) in lots_of_mild().items():
            found = makers_of(one, lot)
            changed = []
            for each in found:
                lower = [poly for poly in found if poly.degree < each.degree]
                total = poly_scaled(each, one.prime - 1)
                for at, (_, product) in enumerate(products_of(lower[:3], each.degree)[:3] if lower else []):
                    total = poly_sum(total, poly_scaled(product, at + 1))
                changed.append(total)
            self.assertIs(are_fewest(one, lot, tuple(changed[::-1])), True, name)
            self.assertIs(are_makers(one, lot, found[1:]), False, name)
            self.assertIs(are_makers(one, lot, found[:-1]), False, name)
            square = poly_product(found[0], found[0])
            self.assertIs(are_makers(one, lot, found + [square]), True, name)
            self.assertIs(are_fewest(one, lot, [square] + found), False, name)
            self.assertIs(are_fewest(one, lot, found + found[:1]), False, name)

    def test_level_unswayed_polys_of_3_unknowns_of_degree_120(self):
        one = house(5, [[4, 0, 0], [0, 4, 0], [0, 0, 4]])
        lot = [poly_power(letter, 2) for letter in letters(5, 3)]
        found = makers_of(one, lot)
        self.assertEqual(degrees_of(found), [2] * 6)
        self.assertIs(are_makers(one, lot, found + [poly_power(lot[0], 60)]), True)
        self.assertIs(are_fewest(one, lot, found + [poly_power(lot[0], 60)]), False)
        self.assertIs(are_makers(one, lot, found + [poly_power(letters(5, 3)[0], 119)]), False)


class WrittenTest(ToolCase):
    def test_many_houses(self):
        for name, (one, lot) in lots_of_mild().items():
            makers = makers_of(one, lot)
            if len(makers) <= 12:
                for seed in range(3):
                    poly = mean(one, some_poly(one.prime, one.wide, 12 if one.wide < 3 else 6, f"{name} {seed}"))
                    poly = poly_sum(poly, poly_sum(makers[-1], constant(one.prime, one.wide, seed)))
                    found = self.unchanged(written, one, lot, makers[::-1], poly)
                    self.assertEqual((found.prime, found.wide), (one.prime, len(makers)))
                    self.assertEqual(slow_put(found, makers[::-1]), poly, name)

    def test_makers_that_are_not_fewest(self):
        makers = (XX, poly_power(XX, 2), XY, YY, poly_sum(XX, YY))
        for poly in unswayed_of(H, 6) + [constant(5, 2, 3), poly_sum(XX, poly_power(XY, 4))]:
            self.assertEqual(slow_put(written(H, LOT, makers, poly), makers), poly)

    def test_by_hand(self):
        found = written(house=H, lot=LOT, makers=[XX, XY, YY], poly=poly_product(XX, YY))
        self.assertEqual(slow_put(found, [XX, XY, YY]), poly_product(XX, YY))
        self.assertLessEqual(set(found.terms), {(1, 0, 1), (0, 2, 0)})
        self.assertEqual(written(H, LOT, [XX, XY, YY], constant(5, 2, 0)), Poly(5, 3, {}))
        self.assertEqual(written(H, LOT, [XX, XY, YY], constant(5, 2, 4)).terms, {(0, 0, 0): 4})
        self.assertEqual(written(trivial(3, 1), letters(3, 1), letters(3, 1), Poly(3, 1, {(120,): 2})).terms, {(120,): 2})

    def test_more_than_300_rows_or_products(self):
        x, y, z = letters(5, 3)
        one = house(5, [[1, 0, 0], [0, 1, 0], [0, 0, 4]])
        lot = [x, y, poly_product(z, z)]
        self.refused(("TooMany", 300), written, one, lot, lot, poly_power(x, 24))
        self.refused(("TooMany", 300), written, one, lot, lot, poly_sum(x, poly_power(x, 120)))
        self.refused(("Swayed",), written, one, lot, lot, poly_sum(z, poly_power(x, 120)))
        self.assertEqual(written(one, lot, lot, poly_power(x, 23)).terms, {(23, 0, 0): 1})
        # In 3 makers of degree 2 there are 300 products of degree 46, 325 of degree 48.
        makers = [XX, XY, YY]
        self.assertEqual(slow_put(written(H, LOT, makers, poly_power(XX, 23)), makers), poly_power(XX, 23))
        self.refused(("TooMany", 300), written, H, LOT, makers, poly_power(XX, 24))
        self.refused(("TooMany", 300), written, H, LOT, makers, poly_sum(XX, poly_power(XX, 24)))
        # Many products of lower degrees do not count.
        one = house(5, [[1, 0], [0, 4]])
        makers = [X, YY] + [poly_scaled(YY, at % 4 + 1) for at in range(10)]
        self.refused(("TooMany", 300), written, one, [X, YY], makers, poly_power(X, 9))
        self.assertEqual(slow_put(written(one, [X, YY], makers, poly_power(X, 3)), makers), poly_power(X, 3))
        self.refused(("TooMany", 12), written, one, [X, YY], makers + [YY], poly_power(X, 9))
        far = [poly_power(letters(97, 1)[0], 2)] * 11 + [poly_power(letters(97, 1)[0], 118)]
        one = house(97, [[96]])
        self.assertEqual(slow_put(written(one, far[:1], far, far[0]), far), far[0])
        self.assertEqual(slow_put(written(one, far[:1], far, poly_power(far[0], 3)), far), poly_power(far[0], 3))
        self.refused(("TooMany", 300), written, one, far[:1], far, poly_power(far[0], 4))

    def test_errors_in_their_sequence(self):
        makers = [XX, XY, YY]
        for thing in NO_OBJECTS:
            self.refused(("BadPoly",), written, SHEAR, None, None, thing)
            self.refused(("BadHouse", None), written, plain(5, 2), None, None, thing)
            self.refused(("BadHouse", None), written, thing, LOT, [XX], X)
            self.refused(("BadMakers",), written, H, LOT, thing, letters(3, 3)[0])
        for wrong in ([XX, YY], [XX, XY, YY, X], (), [constant(5, 2, 1), XX, XY, YY]):
            self.refused(("BadMakers",), written, H, LOT, wrong, letters(3, 3)[0])
        for poly in (letters(3, 2)[0], letters(5, 3)[0], letters(5, 1)[0]):
            self.refused(("BadPoly",), written, H, LOT, makers * 5, poly)
        for poly in (X, poly_sum(XX, Y), poly_power(X, 119)):
            self.refused(("Swayed",), written, H, LOT, makers * 5, poly)
        self.refused(("TooMany", 12), written, H, LOT, makers * 5, poly_power(XX, 30))
        self.refused(("TooMany", 300), written, H, LOT, makers * 4, poly_power(XX, 30))
        self.assertEqual(slow_product(XX, constant(5, 2, 1)), slow_put(written(H, LOT, makers * 4, XX), makers * 4))


if __name__ == "__main__":
    unittest.main()
