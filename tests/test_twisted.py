"""Point [55], unswayed/twisted.py."""

import itertools
import random
import unittest

from tests.tools import (
    NO_OBJECTS, PLANES, ToolCase, all_houses, house, large_houses, signed, small_houses, table, trivial)
from unswayed.degrees import unswayed_of
from unswayed.houses import order_of
from unswayed.leadings import is_unswayed
from unswayed.orbitcounts import orbits
from unswayed.polys import Poly
from unswayed.tables import Table, plain
from unswayed.twisted import exponent, far_parting, house_field, is_stable, stable_orbits, straying, twisted
from unswayed.widefields import WideField, far_moved, far_value, frobenius

MINUS = house(3, [[2]])


def some_far_points(field, wide, seed, many=3):
    chance = random.Random(seed)
    return [
        tuple(tuple(chance.randrange(field.prime) for _ in range(field.degree)) for _ in range(wide))
        for _ in range(many)]


def all_far_points(field, wide):
    numbers = list(itertools.product(range(field.prime), repeat=field.degree))
    return list(itertools.product(numbers, repeat=wide))


def flat(point):
    return [number for each in point for number in each]


def is_slow_stable(one, field, point):
    return any(far_moved(field, each, point) == frobenius(field, point) for each in one.tables)


def fitting_houses():
    """The small houses whose far points are not too wide."""
    return {name: one for name, one in small_houses().items() if one.wide * exponent(one) <= 60}


def combination(points, factors, prime):
    wide, degree = len(points[0]), len(points[0][0])
    return tuple(
        tuple(sum(f * point[i][k] for f, point in zip(factors, points)) % prime for k in range(degree))
        for i in range(wide))


class FieldTest(ToolCase):
    def test_exponent(self):
        for name, one in all_houses().items():
            orders = [order_of(each) for each in one.tables]
            least = next(e for e in range(1, 49) if all(e % order == 0 for order in orders))
            self.assertEqual(exponent(one), least, name)
        self.assertEqual(exponent(house=MINUS), 2)
        self.assertEqual(exponent(trivial(5, 3)), 1)
        self.assertEqual(exponent(signed(97)), 12)

    def test_field(self):
        for name, one in fitting_houses().items():
            self.assertEqual(self.unchanged(house_field, one), WideField(one.prime, exponent(one)), name)
        self.assertEqual(house_field(house=MINUS).modulus, (1, 0))
        self.assertEqual(house_field(house(97, [[25]])).degree, 48)
        self.assertEqual(house_field(house(61, [[pow(2, 2, 61)]])).degree, 30)
        self.assertEqual(house_field(house(61, [[4, 0], [0, 1]])).degree, 30)
        self.refused(("TooMany", 60), house_field, house(61, [[4, 0, 0], [0, 1, 0], [0, 0, 1]]))
        self.refused(("TooMany", 60), house_field, house(97, [[25, 0], [0, 1]]))

    def test_wide_times_exponent_above_60(self):
        one = house(37, [[2, 0], [0, 1]])
        self.assertEqual(exponent(one), 36)
        good = [(1,) * 36, (0,) * 36]
        self.refused(("TooMany", 60), house_field, one)
        self.refused(("TooMany", 60), twisted, one, one.tables[1])
        self.refused(("TooMany", 60), is_stable, one, good)
        self.refused(("TooMany", 60), straying, one, good)
        self.refused(("TooMany", 60), stable_orbits, one)
        self.refused(("BadTable",), twisted, one, plain(37, 3))
        for call in (is_stable, straying):
            self.refused(("BadPoint",), call, one, [(1,) * 36])
            self.refused(("BadPoint",), call, one, [(1,) * 36, (37,) + (0,) * 35])
        field = WideField(37, 3)
        self.assertIsNone(far_parting(one, field, [(1, 2, 3), (0, 1, 1)], [(2, 4, 6), (0, 1, 1)]))
        found = far_parting(one, field, [(1, 2, 3), (0, 1, 1)], [(2, 4, 6), (0, 1, 2)])
        self.assertTrue(is_unswayed(one, found))


class TwistedTest(ToolCase):
    def test_twisted_points(self):
        for name, one in fitting_houses().items():
            field = house_field(one)
            for each in one.tables[:4] + one.tables[-2:]:
                found = self.unchanged(twisted, one, each)
                self.assertEqual(len(found), one.wide, name)
                for point in found:
                    self.assertIsInstance(point, tuple)
                    self.assertEqual(frobenius(field, point), far_moved(field, each, point), name)
                rows = [flat(point) for point in found]
                places = [next(k for k, number in enumerate(row) if number) for row in rows]
                self.assertEqual(places, sorted(set(places)))
                for at, place in enumerate(places):
                    self.assertEqual([row[place] for row in rows], [int(k == at) for k in range(len(rows))])

    def test_there_are_no_others(self):
        for name, one in fitting_houses().items():
            field = house_field(one)
            if one.prime ** (one.wide * field.degree) > 800:
                continue
            for each in one.tables:
                good = {point for point in all_far_points(field, one.wide)
                        if frobenius(field, point) == far_moved(field, each, point)}
                points = twisted(one, each)
                sums = {combination(points, factors, one.prime)
                        for factors in itertools.product(range(one.prime), repeat=one.wide)}
                self.assertEqual(sums, good, name)

    def test_by_hand(self):
        self.assertEqual(twisted(house=MINUS, table=plain(3, 1)), [((1, 0),)])
        self.assertEqual(twisted(MINUS, table(3, [2])), [((0, 1),)])
        self.assertEqual(stable_orbits(house=MINUS), [
            (((0, 0),),), (((0, 1),), ((0, 2),)), (((1, 0),), ((2, 0),))])
        square = Poly(3, 1, {(2,): 1})
        field = house_field(MINUS)
        self.assertEqual(
            [far_value(field, square, orbit[0]) for orbit in stable_orbits(MINUS)], [(0, 0), (2, 0), (1, 0)])
        self.assertEqual(twisted(trivial(5, 2), plain(5, 2)), [((1,), (0,)), ((0,), (1,))])
        self.assertIs(is_stable(house=MINUS, point=[(0, 2)]), True)
        self.assertIs(is_stable(MINUS, ((1, 1),)), False)
        self.assertIsNone(straying(house=MINUS, point=[(0, 2)]))
        self.assertEqual(far_value(field, straying(MINUS, [(1, 1)]), [(1, 1)])[1] != 0, True)


class StableTest(ToolCase):
    def test_stable_points(self):
        for name, one in fitting_houses().items():
            field = house_field(one)
            points = some_far_points(field, one.wide, 3)
            points += [twisted(one, each)[0] for each in one.tables[-2:]]
            if one.prime ** (one.wide * field.degree) <= 100:
                points = all_far_points(field, one.wide)
            for point in points:
                found = is_stable(one, list(point))
                self.assertIs(found, is_slow_stable(one, field, point), name)
                self.check_straying(name, one, field, point, found)

    def check_straying(self, name, one, field, point, stable):
        found = straying(one, point)
        if stable:
            self.assertIsNone(found, name)
            for degree in range(5):
                for poly in unswayed_of(one, degree)[:3]:
                    self.assertFalse(any(far_value(field, poly, point)[1:]), name)
        else:
            self.assertTrue(is_unswayed(one, found), name)
            self.assertTrue(any(far_value(field, found, point)[1:]), name)

    def test_as_many_orbits_as_points(self):
        for name, one in fitting_houses().items():
            found = self.unchanged(stable_orbits, one)
            field = house_field(one)
            self.assertEqual(len(found), one.prime ** one.wide, name)
            for orbit in found:
                self.assertIsInstance(orbit, tuple)
                self.assertEqual(list(orbit), sorted({far_moved(field, each, orbit[0]) for each in one.tables}))
            self.assertEqual([orbit[0] for orbit in found], sorted(orbit[0] for orbit in found))
            self.assertEqual(len({point for orbit in found for point in orbit}), sum(len(orbit) for orbit in found))
            self.assertTrue(all(is_slow_stable(one, field, orbit[0]) for orbit in found[:20]))
            near = {tuple(tuple((number,) + (0,) * (field.degree - 1) for number in point) for point in orbit)
                    for orbit in orbits(one)}
            self.assertLessEqual(near, set(found), name)

    def test_all_stable_points_are_there(self):
        seen = 0
        for name, one in fitting_houses().items():
            field = house_field(one)
            if one.prime ** (one.wide * field.degree) <= 800:
                good = [point for point in all_far_points(field, one.wide) if is_slow_stable(one, field, point)]
                self.assertEqual(sorted(point for orbit in stable_orbits(one) for point in orbit), good, name)
                seen += 1
        self.assertGreater(seen, 8)

    def test_unlike_orbits_have_unlike_rows(self):
        for name, one in fitting_houses().items():
            field = house_field(one)
            firsts = [orbit[0] for orbit in stable_orbits(one)]
            if len(firsts) <= 27:
                rows = [() for _ in firsts]
                for degree in range(1, min(one.size, 12) + 1):
                    for poly in unswayed_of(one, degree):
                        rows = [row + (far_value(field, poly, first),) for row, first in zip(rows, firsts)]
                self.assertFalse(any(any(far[1:]) for row in rows for far in row), name)
                if one.size <= 12:
                    self.assertEqual(len(set(rows)), len(firsts), name)
                for other in firsts[1:4]:
                    self.assertIsNotNone(far_parting(one, field, firsts[0], other))

    def test_200_points_and_more(self):
        self.refused(("TooMany", 200), stable_orbits, trivial(17, 2))
        self.refused(("TooMany", 200), stable_orbits, signed(97))
        self.refused(("TooMany", 60), stable_orbits, house(37, [[2, 0, 0], [0, 1, 0], [0, 0, 1]]))
        self.assertEqual(len(stable_orbits(house(97, [[25]]))), 97)
        self.assertEqual(len(stable_orbits(house(13, [[2, 0], [0, 1]]))), 169)

    def test_degrees_of_more_than_300_rows(self):
        # Below degree 25 nothing of a point (a, 0, 0) is seen.
        one = house(5, *PLANES)
        self.refused(("TooMany", 300), straying, one, [(0, 1, 0, 0, 0), (0,) * 5, (0,) * 5])
        self.assertIsNone(straying(one, [(3, 0, 0, 0, 0), (0,) * 5, (0,) * 5]))
        field = WideField(5, 2)
        zero = (0, 0)
        self.refused(("TooMany", 300), far_parting, one, field, [(0, 1), zero, zero], [(0, 2), zero, zero])
        self.assertEqual(
            far_parting(one, field, [(0, 1), zero, zero], [(0, 1), (0, 1), zero]).degree, 1)


class FarPartingTest(ToolCase):
    def check_pair(self, name, one, field, first, other):
        found = far_parting(one, field, first, other)
        if any(far_moved(field, each, first) == tuple(other) for each in one.tables):
            self.assertIsNone(found, name)
        else:
            self.assertIsInstance(found, Poly)
            self.assertTrue(is_unswayed(one, found), name)
            self.assertLessEqual(found.degree, one.size, name)
            self.assertNotEqual(far_value(field, found, first), far_value(field, found, other), name)

    def test_heart(self):
        for name, one in small_houses().items():
            for degree in (1, 2, 3):
                field = WideField(one.prime, degree)
                points = some_far_points(field, one.wide, degree, 3) + [((0,) * degree,) * one.wide]
                for first in points:
                    for other in points + [frobenius(field, first), far_moved(field, one.tables[-1], first)]:
                        self.check_pair(name, one, field, first, other)

    def test_greater_primes_and_fields(self):
        for name, one in large_houses().items():
            field = WideField(one.prime, 4)
            points = some_far_points(field, one.wide, 2, 2)
            self.check_pair(name, one, field, points[0], points[1])
            self.check_pair(name, one, field, points[0], far_moved(field, one.tables[-1], points[0]))
        one = signed(97)
        field = WideField(97, 60)
        points = some_far_points(field, 3, 1, 2)
        self.check_pair("signed", one, field, points[0], points[1])
        self.check_pair("signed", one, field, list(points[0]), far_moved(field, one.tables[9], points[0]))

    def test_all_points_of_small_fields(self):
        for one in (MINUS, house(2, [[1, 1], [0, 1]]), house(2, [[0, 1], [1, 0]], [[1, 1], [0, 1]])):
            field = WideField(one.prime, 2)
            points = all_far_points(field, one.wide)
            for first in points:
                for other in points:
                    self.check_pair("small", one, field, first, other)

    def test_equal_and_unchanged(self):
        field = WideField(3, 2)
        one = house(3, [[1, 1], [0, 1]], [[1, 0], [1, 1]])
        again = house(3, [[1, 0], [1, 1]], [[1, 2], [0, 1]])
        first, other = [(0, 1), (1, 1)], [(2, 1), (0, 0)]
        found = self.unchanged(far_parting, one, field, first, other)
        self.assertEqual(found, far_parting(house=again, field=WideField(3, 2), one=first, other=other))
        self.unchanged(is_stable, one, [(0, 1, 2, 0, 1, 0, 0, 0, 1, 1, 0, 0)] * 2)
        self.unchanged(straying, one, [(0, 1, 2, 0, 1, 0, 0, 0, 1, 1, 0, 0)] * 2)
        self.assertEqual(exponent(one), 12)


class WrongTest(ToolCase):
    def test_no_houses(self):
        for thing in NO_OBJECTS + (WideField(3, 2),):
            for call in (exponent, house_field, stable_orbits):
                self.refused(("BadHouse", None), call, thing)
            for call in (twisted, is_stable, straying):
                self.refused(("BadHouse", None), call, thing, None)
            self.refused(("BadHouse", None), far_parting, thing, None, None, None)

    def test_wrong_arguments(self):
        one = house(3, [[1, 1], [0, 1]])
        for thing in NO_OBJECTS + (plain(5, 2), plain(3, 1), table(3, [2, 0], [0, 1]), Table(3, 1, 2, [[1, 0]])):
            self.refused(("BadTable",), twisted, one, thing)
        good = (1, 2, 0)
        points = (None, 1, "ab", [], [good], [good] * 3, [good, (1, 2)], [good, [1, 2, 0]], [good, (1, 2, 3)],
                  [good, None], [good, (1, 2, True)], [good, (1, 2, -1)], [good, 1])
        field = WideField(3, 3)
        for point in points:
            self.refused(("BadPoint",), is_stable, one, point)
            self.refused(("BadPoint",), straying, one, point)
            self.refused(("BadPoint",), far_parting, one, field, point, [good] * 2)
            self.refused(("BadPoint",), far_parting, one, field, [good] * 2, point)
        for thing in NO_OBJECTS + (WideField(5, 3), (3, 3), plain(3, 2)):
            self.refused(("BadNumber", "field"), far_parting, one, thing, None, None)


if __name__ == "__main__":
    unittest.main()
