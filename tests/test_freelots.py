"""Point [60], unswayed/freelots.py."""

import itertools
import unittest

from tests.tools import (
    NO_OBJECTS, ToolCase, all_rows, drawn_table, house, is_slow_unswayed, letters, many_houses, signed, slow_product,
    slow_rank, small_houses, table, trivial)
from unswayed.degrees import unswayed_of
from unswayed.freelots import free_lot, is_free_lot
from unswayed.houses import house_led
from unswayed.leadings import led
from unswayed.lotsearch import factors_at, line_lot, space_lot
from unswayed.polys import Poly, constant, poly_power, poly_product, poly_scaled, poly_sum
from unswayed.widefields import WideField, far_value

H = house(5, [[4, 0], [0, 4]])
X, Y = letters(5, 2)


def has_far_zero(polys, degree):
    """Whether the Polys have a common zero but 0 over the field of prime ** degree numbers."""
    field = WideField(polys[0].prime, degree)
    numbers = list(itertools.product(range(field.prime), repeat=degree))
    zero, one = numbers[0], (1,) + (0,) * (degree - 1)
    wide = polys[0].wide
    for spot in range(wide):
        for tail in itertools.product(numbers, repeat=wide - spot - 1):
            point = (zero,) * spot + (one,) + tail
            if all(far_value(field, poly, point) == zero for poly in polys):
                return True
    return False


def slow_free(polys):
    """Whether all rows of the degree above the top are sums of products, as the document's fact says."""
    prime, wide = polys[0].prime, polys[0].wide
    above = sum(poly.degree for poly in polys) - wide + 1
    rows = all_rows(wide, above)
    lines = []
    for poly in polys:
        for row in all_rows(wide, above - poly.degree):
            product = slow_product(poly, Poly(prime, wide, {row: 1}))
            lines.append([product.terms.get(each, 0) for each in rows])
    return slow_rank(lines, prime) == len(rows)


def some_lots(one, most, many):
    """Lists of wide level unswayed Polys of degrees up to most, first sums of multiples of the tidy lists."""
    found = []
    for degree in range(1, most + 1):
        tidy = unswayed_of(one, degree)
        found += tidy[:3]
        if len(tidy) > 1:
            found.append(poly_sum(tidy[0], tidy[1]))
            found.append(poly_sum(poly_scaled(tidy[0], 2), tidy[-1]))
    found = [poly for poly in found if poly.degree > 0]
    lots = list(itertools.combinations(found, one.wide))
    return lots[::max(1, len(lots) // many)][:many]


class IsFreeTest(ToolCase):
    def test_the_fact(self):
        seen = {True: 0, False: 0}
        for name, one in many_houses().items():
            for lot in some_lots(one, 4 if one.wide == 3 else 6, 6):
                found = is_free_lot(one, lot)
                self.assertEqual(found, slow_free(lot), (name, [poly.terms for poly in lot]))
                self.assertEqual(is_free_lot(one, list(lot[::-1])), found)
                seen[found] += 1
        self.assertTrue(seen[True] > 20 and seen[False] > 20, seen)

    def test_common_zeros(self):
        for name in ("plain 2 1", "shear 2 2", "all 2 2", "shear 3 2", "minus 3 1", "minus 5 2"):
            one = small_houses()[name]
            for lot in some_lots(one, 4, 20):
                # In 2 unknowns a common factor has a degree of at most the lesser one, so a zero over that field.
                most = min(poly.degree for poly in lot)
                if most <= (2 if one.prime > 3 else 3):
                    zero = any(has_far_zero(lot, degree) for degree in range(1, most + 1))
                    self.assertEqual(is_free_lot(one, lot), not zero, (name, [poly.terms for poly in lot]))

    def test_no_common_zeros_in_3_unknowns(self):
        for name in ("cycle 2 3", "triangles 2 3", "planes 2 3"):
            one = small_houses()[name]
            for lot in some_lots(one, 4, 30):
                if is_free_lot(one, lot):
                    self.assertFalse(any(has_far_zero(lot, degree) for degree in (1, 2, 3)))

    def test_products_of_degrees(self):
        for name, one in many_houses().items():
            for lot in some_lots(one, 6, 15) if one.wide < 3 else some_lots(one, 4, 10):
                if is_free_lot(one, lot):
                    product = 1
                    for poly in lot:
                        product *= poly.degree
                    self.assertEqual(product % one.size, 0, name)

    def test_other_coordinates(self):
        for name, one in small_houses().items():
            g = drawn_table(one.prime, one.wide, name)
            other = house_led(one, g)
            for lot in some_lots(other, 4, 4):
                self.assertEqual(is_free_lot(one, [led(poly, g) for poly in lot]), is_free_lot(other, lot), name)

    def test_by_hand(self):
        xx, yy, xy = poly_product(X, X), poly_product(Y, Y), poly_product(X, Y)
        self.assertIs(is_free_lot(house=H, thing=[xx, yy]), True)
        self.assertIs(is_free_lot(H, (xx, yy)), True)
        self.assertIs(is_free_lot(H, [poly_sum(xx, yy), xy]), True)
        self.assertIs(is_free_lot(H, [xx, xy]), False)
        fours = poly_sum(poly_power(X, 4), poly_power(Y, 4))
        self.assertIs(is_free_lot(H, [poly_sum(xx, poly_scaled(yy, 2)), fours]), False)
        self.assertIs(is_free_lot(H, [xx, xx]), False)
        self.assertIs(is_free_lot(trivial(5, 2), [X, Y]), True)
        self.assertIs(is_free_lot(trivial(5, 2), [X, poly_scaled(X, 3)]), False)
        self.assertIs(is_free_lot(house(7, [[3]]), [poly_power(letters(7, 1)[0], 6)]), True)

    def test_any_value(self):
        xx, yy = poly_product(X, X), poly_product(Y, Y)
        a, b = letters(3, 2)
        wrong = NO_OBJECTS + (
            [xx], [xx, yy, xx], [xx, None], {0: xx, 1: yy}, "xy", [X, Y], [xx, poly_sum(yy, constant(5, 2, 1))],
            [xx, constant(5, 2, 1)], [xx, constant(5, 2, 0)], [constant(5, 2, 1)] * 2, [poly_product(a, a), yy],
            [poly_product(letters(5, 3)[0], letters(5, 3)[0]), yy], [[xx, yy]], xx, [xx, True], [xx, table(5, [1])])
        for thing in wrong:
            self.assertIs(is_free_lot(H, thing), False)
        for thing in NO_OBJECTS:
            self.refused(("BadHouse", None), is_free_lot, thing, [xx, yy])

    def test_more_than_300_rows(self):
        x, y, z = letters(5, 3)
        one = trivial(5, 3)
        self.assertIs(is_free_lot(one, [poly_power(x, 8), poly_power(y, 8), poly_power(z, 9)]), True)
        self.assertIs(is_free_lot(one, [poly_power(x, 23), y, z]), True)
        self.assertIs(is_free_lot(one, [poly_power(x, 23), y, poly_scaled(y, 2)]), False)
        for lot in ([poly_power(x, 24), y, z], [poly_power(x, 9), poly_power(y, 9), poly_power(z, 8)],
                    [poly_power(x, 24), y, y], (poly_power(x, 120), poly_power(x, 120), x)):
            self.refused(("TooMany", 300), is_free_lot, one, lot)
        # What is no list of level unswayed Polys is none, however high the degrees are.
        for lot in ([poly_power(x, 24), y], [poly_power(x, 24), y, constant(5, 3, 1)],
                    [poly_power(x, 24), y, poly_sum(z, constant(5, 3, 1))], [poly_power(x, 24), y, None]):
            self.assertIs(is_free_lot(one, lot), False)
        self.assertIs(is_free_lot(house(5, [[4, 0, 0], [0, 1, 0], [0, 0, 1]]), [poly_power(x, 25), y, z]), False)
        # In 1 and 2 unknowns there are never more.
        a, b = letters(97, 2)
        self.assertIs(is_free_lot(trivial(97, 2), [poly_power(a, 120), poly_power(b, 120)]), True)
        self.assertIs(is_free_lot(trivial(97, 2), [poly_power(a, 120), poly_product(a, poly_power(b, 119))]), False)
        self.assertIs(is_free_lot(trivial(97, 1), [poly_power(letters(97, 1)[0], 120)]), True)


class FreeLotTest(ToolCase):
    def test_many_houses(self):
        for name, one in many_houses().items():
            lot = self.unchanged(free_lot, one)
            self.assertIsInstance(lot, list)
            self.assertTrue(all(is_slow_unswayed(one, poly) for poly in lot) if one.size < 20 else True)
            self.assertTrue(is_free_lot(one, lot), name)
            self.assertTrue(slow_free(lot), name)
            degrees = [poly.degree for poly in lot]
            self.assertTrue(sum(degrees) <= 25 if one.wide == 3 else max(degrees) <= 96, (name, degrees))

    def test_products_of_forms_do_always(self):
        # What is told where the search finds nothing.
        for name, one in many_houses().items():
            if one.wide == 2:
                lot = line_lot(one)
                self.assertTrue(is_free_lot(one, lot), name)
                self.assertLessEqual(max(poly.degree for poly in lot), 96)

    def test_all_sums_of_multiples_are_tried(self):
        for prime, size in ((2, 1), (2, 4), (3, 3), (5, 2)):
            found = []
            while factors_at(prime, size, len(found)) is not None:
                found.append(factors_at(prime, size, len(found)))
            firsts = [tuple(each) for each in found if [number for number in each if number][0] == 1]
            self.assertEqual(len(set(firsts)), (prime ** size - 1) // (prime - 1))

    def test_small_sums_of_degrees(self):
        # All lots of such degrees, tried one by one.
        for one in (house(2, [[0, 1, 0], [1, 0, 0], [0, 0, 1]], [[0, 1, 0], [0, 0, 1], [1, 0, 0]]),
                    house(2, [[0, 0, 1], [1, 0, 1], [0, 1, 0]]), small_houses()["triangles 2 3"],
                    house(2, [[1, 1, 0], [0, 1, 1], [0, 0, 1]]), house(3, [[0, 2, 0], [1, 0, 0], [0, 0, 2]])):
            for most in range(3, 8):
                polys = [poly for degree in range(1, most - 1) for poly in self.all_polys(one, degree)]
                lots = [lot for lot in itertools.combinations(polys, 3) if sum(poly.degree for poly in lot) <= most]
                if len(lots) < 3000:
                    self.assertEqual(space_lot(one, most) is not None, any(is_free_lot(one, lot) for lot in lots))

    def all_polys(self, one, degree):
        found = []
        tidy = unswayed_of(one, degree)
        for numbers in itertools.product(range(one.prime), repeat=len(tidy)):
            total = constant(one.prime, one.wide, 0)
            for number, poly in zip(numbers, tidy):
                total = poly_sum(total, poly_scaled(poly, number))
            if total.terms and [number for number in numbers if number][0] == 1:
                found.append(total)
        return found

    def test_large_houses_of_2_unknowns(self):
        for prime, lines in ((97, [[25, 0], [0, 25]]), (97, [[25, 0], [0, 1]]), (47, [[0, 46], [1, 7]]),
                             (43, [[1, 1], [0, 1]]), (97, [[25, 0], [0, pow(25, 5, 97)]]), (23, [[22, 1], [0, 22]])):
            one = house(prime, lines)
            lot = free_lot(one)
            self.assertTrue(is_free_lot(one, lot), (prime, lines))
            self.assertTrue(max(poly.degree for poly in lot) <= 96)
        self.assertEqual([poly.degree for poly in free_lot(house(97, [[25]]))], [48])

    def test_degrees_of_a_greater_sum_in_3_unknowns(self):
        def scalar(number, prime=97):
            return house(prime, [[number, 0, 0], [0, number, 0], [0, 0, number]])

        for one in (scalar(25), scalar(43), house(97, [[25, 0, 0], [0, 1, 0], [0, 0, 1]]),
                    house(47, [[1, 1, 0], [0, 1, 0], [0, 0, 1]]), house(23, [[1, 1, 0], [0, 1, 1], [0, 0, 1]]),
                    scalar(9, 37)):
            self.refused(("TooMany", 25), free_lot, one)
        # The sum is 25 just so.
        one = house(23, [[1, 1, 0], [0, 1, 0], [0, 0, 1]])
        lot = free_lot(one)
        self.assertEqual(sorted(poly.degree for poly in lot), [1, 1, 23])
        self.assertTrue(is_free_lot(one, lot))
        one = house(97, [[pow(25, 6, 97), 0, 0], [0, pow(25, 6, 97), 0], [0, 0, pow(25, 6, 97)]])
        self.assertEqual((one.size, sum(poly.degree for poly in free_lot(one))), (8, 24))

    def test_equal_houses(self):
        one = house(5, [[0, 1], [1, 0]], [[4, 0], [0, 1]])
        other = house(5, [[1, 0], [0, 4]], [[4, 0], [0, 1]], [[0, 4], [4, 0]])
        self.assertEqual(one, other)
        self.assertEqual(free_lot(one), free_lot(other))
        self.assertEqual(free_lot(house=signed(5)), free_lot(signed(5)))
        for thing in NO_OBJECTS:
            self.refused(("BadHouse", None), free_lot, thing)

    def test_degrees_hang_on_scalars(self):
        one = house(5, [[0, 0, 1], [1, 0, 0], [0, 1, 0]], [[2, 0, 0], [0, 2, 0], [0, 0, 2]])
        self.assertEqual(one.size, 12)
        self.assertTrue(all(poly.degree % 4 == 0 for poly in free_lot(one)))


if __name__ == "__main__":
    unittest.main()
