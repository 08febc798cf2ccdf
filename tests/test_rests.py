"""Point [94], unswayed/rests.py."""

import unittest

from tests.tools import (
    NO_NUMBERS, NO_OBJECTS, ToolCase, all_rows, house, letters, level_poly, many_houses, mild_houses, signed,
    slow_product, slow_rank, slow_sum, small_houses, some_poly, table, trivial)
from unswayed.alone import alone_degrees
from unswayed.degrees import unswayed_of
from unswayed.houses import is_mild
from unswayed.leadings import led
from unswayed.mirrors import is_mirrored
from unswayed.polys import Poly, constant, poly_power, poly_product, poly_scaled, poly_sum
from unswayed.rests import left_rows, rest_of, rest_row, rest_table, toll_makers
from unswayed.tables import Table, plain, times, trace
from unswayed.tollforms import form_toll
from unswayed.tolls import is_tolled, tolled_of, tolls_of

H = house(5, [[4, 0], [0, 4]])
X, Y = letters(5, 2)
SHEAR = small_houses()["shear 3 2"]


def slow_gone(one, degree):
    """Level gone Polys of this degree, as lines of numbers, that make all of them."""
    rows = all_rows(one.wide, degree)
    lines = []
    for low in range(1, degree + 1):
        for poly in unswayed_of(one, low):
            for row in all_rows(one.wide, degree - low):
                product = slow_product(poly, Poly(one.prime, one.wide, {row: 1}))
                lines.append([product.terms.get(other, 0) for other in rows])
    return lines


def slow_left(one, degree):
    """The rows at which no line of the reduced form of all gone Polys begins."""
    rows = all_rows(one.wide, degree)
    found = []
    lines = slow_gone(one, degree)
    for at, row in enumerate(rows):
        # A gone Poly begins here if it is 0 ahead of here, so if more is independent up to here than ahead of here.
        ahead = slow_rank([line[:at] for line in lines], one.prime) if at and lines else 0
        here = slow_rank([line[:at + 1] for line in lines], one.prime) if lines else 0
        if here == ahead:
            found.append(row)
    return found


def is_slow_gone(one, poly, degree):
    rows = all_rows(one.wide, degree)
    lines = slow_gone(one, degree)
    numbers = [poly.terms.get(row, 0) for row in rows]
    return slow_rank(lines + [numbers], one.prime) == (slow_rank(lines, one.prime) if lines else 0)


def most_degree(one):
    return 7 if one.wide < 3 else 4


class LeftTest(ToolCase):
    def test_second_way(self):
        for name, one in mild_houses().items():
            for degree in range(most_degree(one)):
                found = self.unchanged(left_rows, one, degree)
                self.assertEqual(found, slow_left(one, degree), (name, degree))

    def test_rests(self):
        for name, one in mild_houses().items():
            poly = some_poly(one.prime, one.wide, most_degree(one) - 1, name)
            found = self.unchanged(rest_of, one, poly)
            gone = poly_sum(poly, poly_scaled(found, -1))
            for degree in range(most_degree(one)):
                left = left_rows(one, degree)
                self.assertTrue(all(row in left for row in found.terms if sum(row) == degree), name)
                self.assertTrue(is_slow_gone(one, gone, degree), (name, degree))
            self.assertEqual(rest_of(one, found), found)
            other = some_poly(one.prime, one.wide, 4, name + "4")
            self.assertEqual(rest_of(one, poly_sum(poly, other)), poly_sum(found, rest_of(one, other)))
            for factor in [each for degree in (1, 2, 3) for each in unswayed_of(one, degree)[:2]]:
                self.assertEqual(rest_of(one, slow_product(factor, other)), constant(one.prime, one.wide, 0), name)

    def test_nothing_is_left_from_the_size_on(self):
        for name, one in mild_houses().items():
            if one.size <= (22 if one.wide == 3 else 120):
                self.assertEqual(left_rows(one, one.size), [], name)
                self.assertLessEqual(len(rest_row(one)), one.size)
            self.assertEqual(left_rows(one, 0), [(0,) * one.wide])

    def test_high_degrees(self):
        scalars = house(97, [[25, 0], [0, 25]])
        self.assertEqual(len(left_rows(scalars, 47)), 48)
        self.assertEqual((left_rows(scalars, 48), left_rows(scalars, 120)), ([], []))
        far = poly_sum(poly_power(letters(97, 2)[0], 47), poly_power(letters(97, 2)[1], 120))
        self.assertEqual(rest_of(scalars, far).terms, {(47, 0): 1})
        self.assertEqual(rest_row(scalars), tuple(range(1, 49)))
        one = signed(97)
        self.assertEqual(left_rows(one, 23), [])
        dense = level_poly(97, 3, 9, 1)
        self.assertEqual(list(rest_of(one, dense).terms), [(2, 2, 5)] if (2, 2, 5) in left_rows(one, 9) else left_rows(one, 9))
        self.assertEqual(rest_of(one, level_poly(97, 3, 10, 1)).terms, {})
        self.assertEqual(rest_of(trivial(2, 3), level_poly(2, 3, 23, 1)).terms, {})

    def test_by_hand(self):
        self.assertEqual([left_rows(house=H, degree=degree) for degree in range(4)], [[(0, 0)], [(0, 1), (1, 0)], [], []])
        self.assertEqual(rest_row(house=H), (1, 2))
        poly = poly_sum(poly_sum(constant(5, 2, 3), poly_scaled(X, 2)), poly_sum(poly_product(X, Y), poly_power(Y, 120)))
        self.assertEqual(rest_of(house=H, poly=poly).terms, {(0, 0): 3, (1, 0): 2})
        exchange = house(5, [[0, 1], [1, 0]])
        # Gone is x + y, so the least row y is told by x.
        self.assertEqual([left_rows(exchange, degree) for degree in range(3)], [[(0, 0)], [(1, 0)], []])
        self.assertEqual(rest_of(exchange, Y).terms, {(1, 0): 4})
        self.assertEqual(rest_of(H, constant(5, 2, 0)), constant(5, 2, 0))

    def test_errors(self):
        for thing in NO_OBJECTS:
            self.refused(("BadHouse", None), left_rows, thing, None)
            self.refused(("BadHouse", None), rest_of, thing, None)
            self.refused(("BadHouse", None), rest_row, thing)
            self.refused(("BadPoly",), rest_of, SHEAR, thing)
        for name, one in many_houses().items():
            if not is_mild(one):
                self.refused(("NoMean",), left_rows, one, None)
                self.refused(("NoMean",), rest_row, one)
                self.refused(("NoMean",), rest_of, one, X)
        for degree in (-1, 121) + NO_NUMBERS:
            self.refused(("BadNumber", "degree"), left_rows, trivial(5, 3), degree)
        self.refused(("TooMany", 300), left_rows, trivial(5, 3), 24)
        for poly in (letters(3, 2)[0], letters(5, 3)[0]):
            self.refused(("BadPoly",), rest_of, H, poly)
        x, y, _ = letters(5, 3)
        self.refused(("TooMany", 300), rest_of, trivial(5, 3), poly_sum(x, poly_power(y, 24)))


class RestTableTest(ToolCase):
    def test_columns(self):
        for name, one in mild_houses().items():
            for degree in range(4):
                left = left_rows(one, degree)
                for each in (one.few or one.tables)[:2]:
                    found = self.unchanged(rest_table, one, each, degree)
                    self.assertEqual((found.prime, found.tall, found.wide), (one.prime, len(left), len(left)))
                    for k, row in enumerate(left):
                        image = rest_of(one, led(Poly(one.prime, one.wide, {row: 1}), each))
                        self.assertEqual([line[k] for line in found.lines], [image.terms.get(other, 0) for other in left])

    def test_products(self):
        for name, one in mild_houses().items():
            for degree in range(5):
                for a in one.few[:2]:
                    for b in one.few[-2:]:
                        self.assertEqual(
                            rest_table(one, times(a, b), degree),
                            times(rest_table(one, b, degree), rest_table(one, a, degree)), name)

    def test_traces(self):
        for name, one in mild_houses().items():
            if one.size > 20:
                continue
            row = rest_row(one)
            for degree in range(1, len(row) + 1):
                total = sum(trace(rest_table(one, each, degree)) for each in one.tables)
                self.assertEqual(total % one.prime, 0, (name, degree))
            if is_mirrored(one):
                for each in one.tables:
                    if each != plain(one.prime, one.wide):
                        total = sum(trace(rest_table(one, each, degree)) for degree in range(len(row)))
                        self.assertEqual(total % one.prime, 0, name)

    def test_by_hand(self):
        minus = table(5, [4, 0], [0, 4])
        self.assertEqual(rest_table(house=H, table=minus, degree=1), minus)
        self.assertEqual(rest_table(H, minus, 0), plain(5, 1))
        self.assertEqual(rest_table(H, minus, 2), Table(5, 0, 0, []))
        self.assertEqual(rest_table(H, minus, 120), Table(5, 0, 0, []))

    def test_60_rows_and_more(self):
        number = 25
        scalars = house(97, [[number, 0, 0], [0, number, 0], [0, 0, number]])
        at_nine = rest_table(scalars, table(97, [number, 0, 0], [0, number, 0], [0, 0, number]), 9)
        self.assertEqual(at_nine.tall, 55)
        self.assertEqual(at_nine, Table(97, 55, 55, [[pow(25, 9, 97) * n for n in line] for line in plain(97, 55).lines]))
        self.refused(("TooMany", 60), rest_table, scalars, plain(97, 3), 10)
        self.refused(("TooMany", 60), rest_table, scalars, plain(97, 3), 23)
        self.refused(("TooMany", 300), rest_table, scalars, plain(97, 3), 24)

    def test_errors(self):
        for thing in NO_OBJECTS:
            self.refused(("BadHouse", None), rest_table, thing, None, None)
            self.refused(("BadTable",), rest_table, SHEAR, thing, None)
        self.refused(("NoMean",), rest_table, SHEAR, plain(5, 3), None)
        for each in (plain(5, 3), plain(3, 2), table(5, [4, 0], [0, 1]), Table(5, 2, 1, [[1], [0]])):
            self.refused(("BadTable",), rest_table, H, each, None)
        for degree in (-1, 121) + NO_NUMBERS:
            self.refused(("BadNumber", "degree"), rest_table, H, plain(5, 2), degree)


class RestRowTest(ToolCase):
    def test_rows(self):
        for name, one in mild_houses().items():
            row = self.unchanged(rest_row, one)
            self.assertIsInstance(row, tuple)
            self.assertNotEqual(row[-1], 0)
            for degree in range(6):
                self.assertEqual(row[degree] if degree < len(row) else 0, len(left_rows(one, degree)), name)
            if is_mirrored(one):
                self.assertEqual(sum(row), one.size, name)
                numbers = [1]
                for degree in alone_degrees(one):
                    more = [0] * (len(numbers) + degree - 1)
                    for at, number in enumerate(numbers):
                        for step in range(degree):
                            more[at + step] += number
                    numbers = more
                self.assertEqual(row, tuple(numbers), name)
            else:
                self.assertGreater(sum(row), one.size, name)

    def test_rows_of_degree_23_in_3_unknowns(self):
        def scalar(number, prime=97):
            return house(prime, [[number, 0, 0], [0, number, 0], [0, 0, number]])

        self.assertEqual(rest_row(scalar(2, 47)), tuple((d + 2) * (d + 1) // 2 for d in range(23)))
        for one in (scalar(25), scalar(43), house(97, [[43, 0, 0], [0, 1, 0], [0, 0, 1]])):
            self.refused(("TooMany", 300), rest_row, one)
            self.refused(("TooMany", 300), toll_makers, one, (1,) * one.size)
            self.refused(("BadToll",), toll_makers, one, (1,))
        self.assertEqual(len(rest_row(house(97, [[43, 0], [0, 1]]))), 24)


class MakersTest(ToolCase):
    def test_many_houses(self):
        for name, one in mild_houses().items():
            tolls = tolls_of(one)
            total = 0
            for toll in tolls:
                found = self.unchanged(toll_makers, one, toll)
                total += len(found)
                degrees = [poly.degree for poly in found]
                self.assertEqual(degrees, sorted(degrees))
                self.assertTrue(all(is_tolled(one, toll, poly) for poly in found[:4]), name)
                self.assertGreaterEqual(len(found), 1)
                self.assertEqual(len(found) == 1, form_toll(one, toll) == toll, name)
            self.assertLessEqual(total, sum(rest_row(one)), name)
            self.assertEqual(total == sum(rest_row(one)), len(tolls) == one.size, name)

    def test_they_make_all_and_none_is_too_many(self):
        for name, one in mild_houses().items():
            tolls = tolls_of(one)
            for toll in tolls[::max(1, len(tolls) // 2)]:
                found = toll_makers(one, toll)
                for degree in range(most_degree(one)):
                    rows = all_rows(one.wide, degree)
                    low, here = [], []
                    for poly in found:
                        for factor in unswayed_of(one, degree - poly.degree) if poly.degree <= degree else []:
                            product = slow_product(poly, factor)
                            line = [product.terms.get(row, 0) for row in rows]
                            (here if poly.degree == degree else low).append(line)
                    many = len(tolled_of(one, toll, degree))
                    self.assertEqual(slow_rank(low + here, one.prime), many, (name, degree))
                    self.assertEqual(slow_rank(low, one.prime), many - len(here), (name, degree))

    def test_by_hand(self):
        self.assertEqual([len(toll_makers(house=H, toll=toll)) for toll in tolls_of(H)], [1, 2])
        self.assertEqual(toll_makers(H, (1, 1))[0].degree, 0)
        total = constant(5, 2, 0)
        for poly in toll_makers(H, (1, 4)):
            total = slow_sum(total, poly)
        self.assertEqual(total.degree, 1)

    def test_errors(self):
        for thing in NO_OBJECTS:
            self.refused(("BadHouse", None), toll_makers, thing, None)
            self.refused(("BadToll",), toll_makers, H, thing)
        self.refused(("NoMean",), toll_makers, SHEAR, None)
        for toll in ([1, 4], (1, 2), (1, True)):
            self.refused(("BadToll",), toll_makers, H, toll)


if __name__ == "__main__":
    unittest.main()
