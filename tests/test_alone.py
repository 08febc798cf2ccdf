"""Point [78], unswayed/alone.py."""

import itertools
import unittest

from tests.tools import (
    NO_NUMBERS, NO_OBJECTS, ToolCase, all_rows, house, is_slow_mirror, letters, many_houses, signed, slow_product, slow_put,
    slow_rank, small_houses, some_points, some_poly, table, trivial)
from unswayed.alone import alone_degrees, alone_lot, is_alone_lot, more_degree, needed_of, told_alone
from unswayed.degrees import count_of, unswayed_of
from unswayed.freelots import free_lot, is_free_lot
from unswayed.houses import House, is_mild
from unswayed.inner import point_keeper
from unswayed.mirrors import is_mirrored, mirror_form, mirrors_of, wall_product, walls_of
from unswayed.orbitcounts import orbits
from unswayed.polys import constant, poly_power, poly_product, poly_scaled, poly_sum, value_at
from unswayed.slopes import divided, slope_determinant
from unswayed.tables import plain

SIGNED = house(5, [[0, 1], [1, 0]], [[4, 0], [0, 1]])
H = house(5, [[4, 0], [0, 4]])
THREE = small_houses()["three mirrors 3 3"]
X, Y = letters(5, 2)


def degrees_of(polys):
    return [poly.degree for poly in polys]


def product_of(numbers):
    total = 1
    for number in numbers:
        total *= number
    return total


def slow_needed(one, degree):
    """count_of less the rank of all products of two level unswayed Polys, in this degree."""
    rows = all_rows(one.wide, degree)
    lines = []
    for first in range(1, degree // 2 + 1):
        for poly, other in itertools.product(unswayed_of(one, first), unswayed_of(one, degree - first)):
            terms = slow_product(poly, other).terms
            lines.append([terms.get(row, 0) for row in rows])
    return count_of(one, degree) - slow_rank(lines, one.prime)


def numbers_of_powers(factors):
    """The numbers of the powers of T in the product of all T + number."""
    numbers = [1]
    for number in factors:
        numbers = [x + number * y for x, y in zip([0] + numbers, numbers + [0])]
    return numbers


def houses_with_lots():
    return [(name, one, alone_lot(one)) for name, one in many_houses().items() if alone_lot(one) is not None]


class NeededTest(ToolCase):
    def test_second_way(self):
        for name, one in many_houses().items():
            most = 9 if one.wide < 3 else 5
            if one.size > 2 or one.wide < 3:
                found = self.unchanged(needed_of, one, most)
                self.assertIsInstance(found, tuple)
                self.assertEqual(found, tuple(slow_needed(one, degree) for degree in range(1, most + 1)), name)

    def test_high_degrees(self):
        self.assertEqual(needed_of(house=H, degree=120), (0, 3) + (0,) * 118)
        self.assertEqual(needed_of(H, 1), (0,))
        self.assertEqual(needed_of(trivial(5, 2), 1), (2,))
        self.assertEqual(needed_of(house(97, [[25]]), 120), (0,) * 47 + (1,) + (0,) * 72)
        scalars = house(97, [[25, 0], [0, 25]])
        self.assertEqual(needed_of(scalars, 120), (0,) * 47 + (49,) + (0,) * 72)
        self.assertEqual(needed_of(trivial(2, 3), 23), (3,) + (0,) * 22)
        self.assertEqual(needed_of(THREE, 9), (1, 0, 0, 1, 0, 1, 0, 0, 1))
        self.assertEqual(needed_of(small_houses()["shear 3 3"], 23), (1, 1, 2) + (0,) * 20)
        shear = small_houses()["shear and scale 5 2"]
        self.assertEqual(sum(needed_of(shear, 120)), sum(needed_of(shear, 40)))

    def test_mild_houses_need_none_above_their_size(self):
        for name, one in many_houses().items():
            if is_mild(one) and one.size < 12:
                found = needed_of(one, 20 if one.wide == 3 else 40)
                self.assertFalse(any(found[one.size:]), name)
                self.assertGreaterEqual(sum(found), one.wide, name)

    def test_wrong_inputs(self):
        for thing in NO_OBJECTS:
            self.refused(("BadHouse", None), needed_of, thing, None)
        for degree in (0, 121, -1) + NO_NUMBERS:
            self.refused(("BadNumber", "degree"), needed_of, trivial(5, 3), degree)
        for degree in (24, 120):
            self.refused(("TooMany", 300), needed_of, trivial(5, 3), degree)


class AloneTest(ToolCase):
    def test_lots_that_are_found(self):
        for name, one in many_houses().items():
            lot = self.unchanged(alone_lot, one)
            degrees = self.unchanged(alone_degrees, one)
            if lot is None:
                self.assertIsNone(degrees)
                continue
            self.assertEqual(degrees, degrees_of(lot))
            self.assertEqual(degrees, sorted(degrees))
            self.assertIs(is_alone_lot(one, lot), True)
            self.assertIs(is_alone_lot(one, tuple(lot[::-1])), True)
            self.assertEqual(product_of(degrees), one.size, name)
            # As many products as independent unswayed Polys, and independent: they make all.
            for degree in range(1, 8 if one.wide < 3 else 5):
                rows = all_rows(one.wide, degree)
                lines = []
                for most in range(degree + 1):
                    for row in all_rows(one.wide, most):
                        if sum(e * d for e, d in zip(row, degrees)) == degree:
                            power = product_of_polys([poly_power(f, e) for e, f in zip(row, lot)])
                            lines.append([power.terms.get(other, 0) for other in rows])
                self.assertEqual(len(lines), count_of(one, degree), (name, degree))
                self.assertEqual(slow_rank(lines, one.prime), len(lines))

    def test_who_has_one(self):
        for name, one in many_houses().items():
            if is_mild(one) or one.wide < 3:
                self.assertEqual(alone_lot(one) is not None, is_mirrored(one), name)
            elif alone_lot(one) is not None:
                self.assertTrue(is_mirrored(one), name)
        self.assertTrue(is_mirrored(THREE))
        self.assertEqual(THREE.size, 18)
        self.assertIsNone(alone_lot(house=THREE))
        self.assertIsNone(alone_degrees(house=THREE))
        self.assertEqual(more_degree(house=THREE), 9)

    def test_more_degree(self):
        for name, one in many_houses().items():
            found = more_degree(one)
            if alone_lot(one) is not None:
                self.assertIsNone(found, name)
                continue
            self.assertLessEqual(found, one.size, name)
            needed = needed_of(one, found)
            self.assertGreater(sum(needed), one.wide)
            self.assertLessEqual(sum(needed[:-1]), one.wide, name)

    def test_what_cannot_be_looked_at(self):
        def scalar(number, prime):
            return house(prime, [[number, 0, 0], [0, number, 0], [0, 0, number]])

        for call in (alone_lot, alone_degrees, more_degree):
            for one in (scalar(25, 97), scalar(43, 97), house(97, [[25, 0, 0], [0, 1, 0], [0, 0, 1]])):
                self.refused(("TooMany", 300), call, one)
            for thing in NO_OBJECTS:
                self.refused(("BadHouse", None), call, thing)
        self.assertIsNone(alone_lot(scalar(2, 47)))
        self.assertEqual(more_degree(scalar(2, 47)), 23)
        # Just three are needed up to 23, and their degrees do not have the size as their product.
        one = house(97, [[25, 0, 0], [0, pow(25, 41, 97), 0], [0, 0, 1]])
        self.assertEqual((one.size, needed_of(one, 23)), (48, (1,) + (0,) * 6 + (2,) + (0,) * 15))
        self.assertIsNone(alone_lot(one))
        self.assertIsNone(alone_degrees(one))
        self.refused(("TooMany", 300), more_degree, one)
        # Just two are needed up to 23, others only in degree 24.
        one = house(97, [[43, 0, 0], [0, pow(43, 23, 97), 0], [0, 0, 1]])
        self.assertEqual((one.size, needed_of(one, 23)), (24, (1, 1) + (0,) * 21))
        for call in (alone_lot, alone_degrees, more_degree):
            self.refused(("TooMany", 300), call, one)

    def test_facts_of_slopes_and_walls(self):
        for name, one, lot in houses_with_lots():
            factor = divided(slope_determinant(lot), wall_product(one))
            self.assertEqual(factor.degree, 0, name)
            self.assertTrue(is_free_lot(one, lot), name)
            total = sum(degree - 1 for degree in degrees_of(lot))
            self.assertEqual(total, wall_product(one).degree)
            if is_mild(one):
                self.assertEqual(total, len(mirrors_of(one)), name)

    def test_free_lots_of_that_product(self):
        for name, one in many_houses().items():
            lot = free_lot(one)
            if product_of(degrees_of(lot)) == one.size:
                self.assertIs(is_alone_lot(one, lot), True, name)
            else:
                self.assertIs(is_alone_lot(one, lot), False, name)
            found = slope_determinant(lot)
            if found.degree == wall_product(one).degree and found.degree >= 0:
                self.assertIs(is_alone_lot(one, lot), True, name)

    def test_products_of_degrees_that_are_the_size(self):
        seen = {True: 0, False: 0}
        for name, one in many_houses().items():
            most = min(one.size, 12 if one.wide < 3 else 6)
            found = [poly for degree in range(1, most + 1) for poly in unswayed_of(one, degree)[:3]]
            lots = [lot for lot in itertools.combinations(found, one.wide) if product_of(degrees_of(lot)) == one.size]
            for lot in lots[:6]:
                told = is_alone_lot(one, lot)
                seen[told] += 1
                self.assertEqual(told, is_free_lot(one, lot), name)
                self.assertEqual(told, slope_determinant(lot).degree >= 0, name)
        self.assertTrue(min(seen.values()) > 20, seen)

    def test_multiples_of_orders(self):
        for name, one in many_houses().items():
            degrees = alone_degrees(one)
            free = degrees_of(free_lot(one))
            for c in range(1, min(one.prime, 14)):
                order = [e for e in range(1, one.prime) if pow(c, e, one.prime) == 1][0]
                least = min(
                    slow_rank(
                        [[x - c * int(i == j) for j, x in enumerate(line)] for i, line in enumerate(g.lines)], one.prime)
                    for g in one.tables)
                self.assertGreaterEqual(len([d for d in free if d % order == 0]), one.wide - least, name)
                if degrees is not None:
                    self.assertEqual(len([d for d in degrees if d % order == 0]), one.wide - least, (name, c))

    def test_ranks_orbits_and_keepers(self):
        for name, one, lot in houses_with_lots():
            degrees = degrees_of(lot)
            for point in some_points(one, name, 3):
                kept = point_keeper(one, point)
                self.assertIsNotNone(alone_lot(kept), name)
                if is_mild(one):
                    mirrors = [g for g in mirrors_of(one) if value_at(mirror_form(g), point) == 0]
                    self.assertEqual(kept, House(one.prime, one.wide, mirrors), name)
            if is_mild(one):
                ranks = [
                    slow_rank([[x - int(i == j) for j, x in enumerate(line)] for i, line in enumerate(g.lines)], one.prime)
                    for g in one.tables]
                powers = numbers_of_powers([degree - 1 for degree in degrees])
                self.assertEqual([ranks.count(k) for k in range(one.wide + 1)], powers[::-1], name)
                if one.prime ** one.wide <= 200:
                    many = product_of([one.prime + degree - 1 for degree in degrees])
                    self.assertEqual(len(orbits(one)) * product_of(degrees), many, name)

    def test_sums_of_degrees_of_mild_houses(self):
        for name, one in many_houses().items():
            if is_mild(one):
                mirrors = len([g for g in one.tables if is_slow_mirror(g)])
                found = [poly for degree in range(1, 7) for poly in unswayed_of(one, degree)[:3]]
                for lot in itertools.combinations(found[:9], one.wide):
                    if sum(degrees_of(lot)) - one.wide == mirrors:
                        self.assertEqual(is_alone_lot(one, lot), slope_determinant(lot).degree >= 0, name)

    def test_any_value(self):
        squares = poly_sum(poly_product(X, X), poly_product(Y, Y))
        last = poly_product(poly_product(X, X), poly_product(Y, Y))
        for lot in ([squares, last], (last, squares), [poly_scaled(squares, 3), poly_sum(last, poly_product(squares, squares))]):
            self.assertIs(self.unchanged(is_alone_lot, SIGNED, lot), True)
        wrong = NO_OBJECTS + (
            [squares], [squares, squares], [squares, last, last], [squares, poly_product(squares, squares)], [squares, None],
            [squares, poly_product(last, squares)], [X, Y], [squares, poly_sum(last, squares)], [squares, True], "ab",
            [poly_product(X, X), last], {0: squares, 1: last}, [constant(5, 2, 1), last], [squares, letters(5, 3)[0]])
        for thing in wrong:
            self.assertIs(is_alone_lot(SIGNED, thing), False)
        self.assertIs(is_alone_lot(house=trivial(5, 2), thing=[X, Y]), True)
        self.assertIs(is_alone_lot(trivial(5, 2), [X, poly_scaled(X, 2)]), False)
        x, y, z = letters(5, 3)
        self.assertIs(is_alone_lot(trivial(5, 3), [poly_power(x, 24), y, z]), False)
        # The product of the degrees is the size, but there is a common zero.
        self.assertIs(is_alone_lot(house(3, [[2, 0], [0, 2]]), [poly_power(letters(3, 2)[0], 2), letters(3, 2)[1]]), False)
        for thing in NO_OBJECTS:
            self.refused(("BadHouse", None), is_alone_lot, thing, None)


def product_of_polys(polys):
    total = polys[0]
    for poly in polys[1:]:
        total = slow_product(total, poly)
    return total


class ToldAloneTest(ToolCase):
    def test_what_is_told_comes_back(self):
        for name, one, lot in houses_with_lots():
            for seed in range(2):
                q = some_poly(one.prime, one.wide, 3, f"{name} {seed}", 4)
                poly = slow_put(q, lot)
                if poly.degree <= (120 if one.wide < 3 else 23):
                    self.assertEqual(self.unchanged(told_alone, one, lot, poly), q, name)
            for degree in range(5):
                for poly in unswayed_of(one, degree)[:3]:
                    self.assertEqual(slow_put(told_alone(one, lot, poly), lot), poly, name)

    def test_by_hand(self):
        self.assertEqual(alone_degrees(SIGNED), [2, 4])
        self.assertEqual([(form.terms, turns, shears) for form, turns, shears in walls_of(SIGNED)], [
            ({(0, 1): 1}, 2, 1), ({(0, 1): 1, (1, 0): 1}, 2, 1), ({(0, 1): 4, (1, 0): 1}, 2, 1), ({(1, 0): 1}, 2, 1)])
        lot = [poly_sum(poly_product(X, X), poly_product(Y, Y)), poly_product(poly_product(X, X), poly_product(Y, Y))]
        fours = poly_sum(poly_power(X, 4), poly_power(Y, 4))
        self.assertEqual(told_alone(house=SIGNED, lot=lot, poly=fours).terms, {(0, 1): 3, (2, 0): 1})
        self.assertIsNone(alone_lot(H))
        self.assertEqual((needed_of(H, 3), more_degree(H), mirrors_of(H)), ((0, 3, 0), 2, []))
        self.assertEqual(told_alone(SIGNED, lot, constant(5, 2, 0)), constant(5, 2, 0))
        self.assertEqual(told_alone(SIGNED, lot, constant(5, 2, 3)), constant(5, 2, 3))
        far = told_alone(trivial(5, 2), [Y, X], poly_product(poly_power(X, 119), Y))
        self.assertEqual(far.terms, {(1, 119): 1})
        self.assertEqual(alone_degrees(signed(97)), [2, 4, 6])

    def test_errors(self):
        lot = alone_lot(SIGNED)
        for thing in NO_OBJECTS:
            self.refused(("BadHouse", None), told_alone, thing, None, None)
            self.refused(("BadPoly",), told_alone, SIGNED, None, thing)
            self.refused(("BadAlone",), told_alone, SIGNED, thing, letters(3, 3)[0])
        for wrong in (lot[:1], lot + lot, [lot[0], lot[0]], [X, Y], [lot[0], poly_power(lot[0], 2)]):
            self.refused(("BadAlone",), told_alone, SIGNED, wrong, letters(3, 3)[0])
        for poly in (letters(3, 2)[0], letters(5, 3)[0]):
            self.refused(("BadPoly",), told_alone, SIGNED, lot, poly)
        for poly in (X, poly_sum(lot[0], Y), poly_power(X, 120)):
            self.refused(("Swayed",), told_alone, SIGNED, lot, poly)
        x, y, z = letters(5, 3)
        one = house(5, [[1, 0, 0], [0, 1, 0], [0, 0, 4]])
        self.refused(("TooMany", 300), told_alone, one, [x, y, poly_product(z, z)], poly_power(x, 24))
        self.refused(("Swayed",), told_alone, one, [x, y, poly_product(z, z)], poly_sum(z, poly_power(x, 24)))
        self.refused(("BadAlone",), told_alone, house(5, [[4, 0], [0, 4]]), free_lot(H), poly_product(X, X))
        self.assertEqual(plain(5, 1), table(5, [1]))


if __name__ == "__main__":
    unittest.main()
