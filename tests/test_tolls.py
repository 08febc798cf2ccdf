"""Points [90] and [91], unswayed/tolls.py."""

import itertools
import unittest

from tests.tools import (
    NO_NUMBERS, NO_OBJECTS, ToolCase, all_rows, house, letters, level_poly, many_houses, signed, slow_determinant,
    slow_led, slow_product, slow_rank, slow_sum, slow_times, slow_undone, some_poly, trivial)
from unswayed.degrees import count_of, unswayed_of
from unswayed.houses import House, is_mild
from unswayed.means import mean
from unswayed.polys import Poly, constant, is_level, poly_product, poly_scaled, poly_sum
from unswayed.tolls import (
    determinant_toll, is_toll, is_tolled, toll_back, toll_mean, toll_of, toll_product, tolled_of, tolls_of, untolled)

H = house(5, [[4, 0], [0, 4]])
SIGNED = house(5, [[0, 1], [1, 0]], [[4, 0], [0, 1]])


def products_of(one):
    """For each two tables the index of their product."""
    places = {each.lines: at for at, each in enumerate(one.tables)}
    return [[places[slow_times(a, b).lines] for b in one.tables] for a in one.tables]


def is_slow_toll(one, products, toll):
    many = range(one.size)
    return all(toll[products[a][b]] == toll[a] * toll[b] % one.prime for a in many for b in many)


def slow_untolled(one):
    """The House of all g * h * g' * h' and all products of prime - 1 factors g."""
    backs = [slow_undone(each) for each in one.tables]
    found = []
    for g, back in zip(one.tables, backs):
        power = g
        for _ in range(one.prime - 2):
            power = slow_times(power, g)
        found.append(power)
        for h, other in zip(one.tables, backs):
            found.append(slow_times(slow_times(slow_times(g, h), back), other))
    return House(one.prime, one.wide, [each for at, each in enumerate(found) if each not in found[:at]])


def some_tolls(one):
    tolls = tolls_of(one)
    return tolls[::max(1, len(tolls) // 4)]


class TollTest(ToolCase):
    def test_all_tolls_of_small_houses(self):
        seen = 0
        for name, one in many_houses().items():
            if (one.prime - 1) ** one.size <= 5000:
                products = products_of(one)
                tuples = itertools.product(range(1, one.prime), repeat=one.size)
                found = [toll for toll in tuples if is_slow_toll(one, products, toll)]
                self.assertEqual(self.unchanged(tolls_of, one), found, name)
                seen += 1
        self.assertGreater(seen, 20)

    def test_untolled_tables(self):
        for name, one in many_houses().items():
            tolls = self.unchanged(tolls_of, one)
            self.assertEqual(tolls, sorted(tolls))
            self.assertEqual(len(set(tolls)), len(tolls))
            self.assertTrue(all(isinstance(toll, tuple) and is_toll(one, toll) for toll in tolls))
            products = products_of(one)
            self.assertTrue(all(is_slow_toll(one, products, toll) for toll in tolls), name)
            left = self.unchanged(untolled, one)
            self.assertEqual(left.size * len(tolls), one.size, name)
            if one.size <= 24:
                self.assertEqual(left, slow_untolled(one), name)
            backs = [slow_undone(each) for each in one.tables]
            for a in range(0, one.size, max(1, one.size // 5)):
                for b in range(one.size):
                    same = all(toll[a] == toll[b] for toll in tolls)
                    self.assertEqual(same, slow_times(one.tables[a], backs[b]) in left.tables, name)

    def test_determinants_products_and_backs(self):
        for name, one in many_houses().items():
            ones = (1,) * one.size
            found = self.unchanged(determinant_toll, one)
            self.assertEqual(found, tuple(slow_determinant(each.lines) % one.prime for each in one.tables))
            self.assertIs(is_toll(one, found), True)
            for a in some_tolls(one):
                self.assertEqual(toll_product(one, a, toll_back(one, a)), ones, name)
                self.assertEqual(toll_product(one, a, ones), a)
                for b in some_tolls(one):
                    product = toll_product(house=one, one=a, other=b)
                    self.assertEqual(product, tuple(x * y % one.prime for x, y in zip(a, b)))
                    self.assertIs(is_toll(one, product), True)

    def test_any_value(self):
        for toll in ((1, 1), (1, 4)):
            self.assertIs(is_toll(house=H, thing=toll), True)
        wrong = NO_OBJECTS + (
            [1, 1], [1, 4], (1,), (1, 1, 1), (4, 1), (1, 2), (1, 0), (1, -1), (1, 5), (1, 6), (True, 1), (1, True), (1, 1.0),
            (1, None), "11", {0: 1, 1: 4}, (1, (4,)), (0, 0))
        for thing in wrong:
            self.assertIs(is_toll(H, thing), False)
            for call in (lambda: toll_back(H, thing), lambda: toll_product(H, thing, (1, 1)),
                         lambda: toll_product(H, (1, 4), thing), lambda: is_tolled(H, thing, letters(3, 3)[0]),
                         lambda: tolled_of(H, thing, None), lambda: toll_mean(H, thing, letters(3, 3)[0])):
                self.refused(("BadToll",), call)
        self.assertIs(is_toll(SIGNED, (1, 4, 4, 1, 1, 4, 4, 1)), True)
        self.assertIs(is_toll(SIGNED, (1, 4, 4, 1, 1, 4, 1, 4)), False)
        self.assertIs(is_toll(trivial(2, 3), (1,)), True)
        self.assertIs(is_toll(house(3, [[1, 1], [0, 1]]), (1, 1, 1)), True)

    def test_by_hand(self):
        self.assertEqual(tolls_of(house=H), [(1, 1), (1, 4)])
        self.assertEqual(determinant_toll(house=H), (1, 1))
        self.assertEqual(len(tolls_of(house(97, [[25]]))), 48)
        self.assertEqual(untolled(house(97, [[25]])).size, 1)
        self.assertEqual(tolls_of(house(5, [[1, 1], [0, 1]])), [(1,) * 5])
        self.assertEqual(toll_back(house=house(5, [[2]]), toll=(1, 2, 3, 4)), (1, 3, 2, 4))
        self.assertEqual(len(tolls_of(signed(3))), 4)
        self.assertEqual(untolled(house=SIGNED), H)

    def test_no_houses(self):
        for thing in NO_OBJECTS:
            for call in (lambda: is_toll(thing, None), lambda: tolls_of(thing), lambda: determinant_toll(thing),
                         lambda: toll_product(thing, None, None), lambda: toll_back(thing, None),
                         lambda: untolled(thing), lambda: is_tolled(thing, None, None), lambda: toll_of(thing, None),
                         lambda: tolled_of(thing, None, None), lambda: toll_mean(thing, None, None)):
                self.refused(("BadHouse", None), call)


class TolledTest(ToolCase):
    def test_is_tolled_and_toll_of(self):
        for name, one in many_houses().items():
            polys = [poly for degree in range(4) for toll in some_tolls(one) for poly in tolled_of(one, toll, degree)[:2]]
            polys += [some_poly(one.prime, one.wide, 2, seed, 2) for seed in range(3)]
            for poly in polys[:14]:
                images = [slow_led(poly, each) for each in (one.tables if one.size < 13 else one.few)]
                tables = one.tables if one.size < 13 else one.few
                found = self.unchanged(toll_of, one, poly)
                told = []
                for toll in tolls_of(one):
                    numbers = [toll[one.tables.index(each)] for each in tables]
                    if all(image == poly_scaled(poly, number) for image, number in zip(images, numbers)):
                        told.append(toll)
                    self.assertIs(is_tolled(one, toll, poly), bool(told and told[-1] == toll), name)
                self.assertEqual(found, told[0] if told and poly.terms else None, name)

    def test_tidy_lists(self):
        for name, one in many_houses().items():
            for toll in some_tolls(one):
                for degree in range(5 if one.wide < 3 else 4):
                    found = self.unchanged(tolled_of, one, toll, degree)
                    self.assertTrue(all(is_level(each) and each.degree == degree for each in found))
                    self.assertTrue(all(is_tolled(one, toll, each) for each in found), name)
                    least = [min(each.terms) for each in found]
                    self.assertEqual(least, sorted(set(least)))
                    for at, row in enumerate(least):
                        self.assertEqual([each.terms.get(row, 0) for each in found], [int(k == at) for k in range(len(found))])
                    if one.size <= 12:
                        self.assertEqual(len(found), self.slow_count(one, toll, degree), (name, degree))
                    if set(toll) == {1}:
                        self.assertEqual(found, unswayed_of(one, degree))

    def slow_count(self, one, toll, degree):
        rows = all_rows(one.wide, degree)
        gaps = []
        for row in rows:
            poly = Poly(one.prime, one.wide, {row: 1})
            line = []
            for each, number in zip(one.tables, toll):
                image = slow_led(poly, each)
                line += [image.terms.get(other, 0) - number * int(other == row) for other in rows]
            gaps.append(line)
        return len(rows) - slow_rank(gaps, one.prime)

    def test_by_hand(self):
        x, y = letters(5, 2)
        none = constant(5, 2, 0)
        self.assertIs(is_tolled(house=H, toll=(1, 4), poly=x), True)
        self.assertIs(is_tolled(H, (1, 1), x), False)
        for toll in tolls_of(H):
            self.assertIs(is_tolled(H, toll, none), True)
        self.assertIsNone(toll_of(house=H, poly=none))
        self.assertEqual((toll_of(H, y), toll_of(H, poly_product(x, y))), ((1, 4), (1, 1)))
        self.assertIsNone(toll_of(H, poly_sum(x, constant(5, 2, 1))))
        self.assertIsNone(toll_of(house(5, [[0, 1], [1, 0]]), x))
        self.assertEqual([each.terms for each in tolled_of(house=H, toll=(1, 4), degree=1)], [{(0, 1): 1}, {(1, 0): 1}])
        self.assertEqual(tolled_of(H, (1, 4), 120), [])
        self.assertEqual(len(tolled_of(H, (1, 4), 119)), 120)
        self.assertEqual(tolled_of(H, (1, 1), 0), [constant(5, 2, 1)])

    def test_means(self):
        for name, one in many_houses().items():
            if not is_mild(one):
                for poly in letters(one.prime, one.wide):
                    self.refused(("NoMean",), toll_mean, one, None, poly)
                self.refused(("BadPoly",), toll_mean, one, None, None)
                continue
            poly = level_poly(one.prime, one.wide, 2, name) if one.size > 12 else some_poly(one.prime, one.wide, 3, name, 4)
            total = constant(one.prime, one.wide, 0)
            for toll in tolls_of(one):
                found = toll_mean(one, toll, poly)
                total = poly_sum(total, found)
                self.assertIs(is_tolled(one, toll, found), True, name)
                self.assertEqual(toll_mean(house=one, toll=toll, poly=found), found)
            self.assertEqual(total, mean(untolled(one), poly), name)
            for toll in some_tolls(one)[:3]:
                slow = constant(one.prime, one.wide, 0)
                for each, number in zip(one.tables, toll):
                    slow = slow_sum(slow, poly_scaled(slow_led(poly, each), pow(number, -1, one.prime)))
                self.assertEqual(poly_scaled(toll_mean(one, toll, poly), one.size), slow, name)
                for other in some_tolls(one)[:3]:
                    for factor in [each for degree in range(3) for each in tolled_of(one, other, degree)[:1]]:
                        self.assertEqual(
                            toll_mean(one, toll_product(one, toll, other), slow_product(factor, poly)),
                            slow_product(factor, toll_mean(one, toll, poly)), name)

    def test_errors(self):
        for thing in NO_OBJECTS:
            self.refused(("BadPoly",), is_tolled, H, None, thing)
            self.refused(("BadPoly",), toll_of, H, thing)
            self.refused(("BadPoly",), toll_mean, H, None, thing)
        for poly in (letters(3, 2)[0], letters(5, 3)[0]):
            for call in (is_tolled, toll_mean):
                self.refused(("BadToll",), call, H, [1, 1], poly)
                self.refused(("BadPoly",), call, H, (1, 1), poly)
            self.refused(("BadPoly",), toll_of, H, poly)
        for degree in (-1, 121) + NO_NUMBERS:
            self.refused(("BadNumber", "degree"), tolled_of, H, (1, 1), degree)
        one = trivial(5, 3)
        self.refused(("TooMany", 300), tolled_of, one, (1,), 24)
        self.refused(("BadToll",), tolled_of, one, (2,), 24)
        self.assertEqual(len(tolled_of(one, (1,), 23)), 300)
        self.assertEqual(count_of(one, 23), 300)


if __name__ == "__main__":
    unittest.main()
