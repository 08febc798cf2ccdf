"""Point [53], unswayed/partlots.py."""

import itertools
import unittest

from tests.tools import NO_NUMBERS, NO_OBJECTS, PLANES, ToolCase, house, slow_rank, small_houses, trivial
from unswayed.degrees import unswayed_of
from unswayed.houses import is_mild
from unswayed.leadings import is_unswayed
from unswayed.orbitcounts import orbits
from unswayed.partings import parting_degree
from unswayed.partlots import fewest_parting, part_degree, parts_all, telling, telling_degree
from unswayed.polys import Poly, constant, letter, poly_power, poly_product, poly_sum, value_at

SHEAR = house(3, [[1, 1], [0, 1]])


def values(one, poly):
    return [value_at(poly, orbit[0]) for orbit in orbits(one)]


def slow_telling_degree(one):
    """The first degree in which the numbers of all unswayed Polys so far tell all orbits."""
    rows = []
    many = len(orbits(one))
    for degree in range(121):
        rows += [values(one, poly) for poly in unswayed_of(one, degree)]
        if slow_rank(rows, one.prime) == many:
            return degree
    return None


class PartTest(ToolCase):
    def test_part_degree(self):
        for name, one in small_houses().items():
            firsts = [orbit[0] for orbit in orbits(one)]
            found = self.unchanged(part_degree, one)
            self.assertLessEqual(found, one.size, name)
            marks = [()] * len(firsts)
            for degree in range(1, found + 1):
                self.assertLess(len(set(marks)), len(firsts), name)
                for poly in unswayed_of(one, degree):
                    marks = [mark + (value_at(poly, first),) for mark, first in zip(marks, firsts)]
            self.assertEqual(len(set(marks)), len(firsts), name)

    def test_it_is_the_greatest_parting_degree(self):
        for name, one in small_houses().items():
            firsts = [orbit[0] for orbit in orbits(one)]
            if len(firsts) <= 12:
                degrees = [parting_degree(one, a, b) for a, b in itertools.combinations(firsts, 2)]
                self.assertEqual(part_degree(one), max(degrees), name)

    def test_by_hand(self):
        self.assertEqual(part_degree(house=SHEAR), 3)
        self.assertEqual(telling_degree(house=SHEAR), 6)
        b = letter(3, 2, 1)
        cube = Poly(3, 2, {(3, 0): 1, (1, 2): -1})
        self.assertTrue(is_unswayed(SHEAR, b) and is_unswayed(SHEAR, cube))
        self.assertEqual([value_at(cube, [a, 0]) for a in range(3)], [0, 1, 2])
        self.assertTrue(parts_all(house=SHEAR, polys=[b, cube]))
        self.assertFalse(parts_all(SHEAR, [b]))
        self.assertFalse(parts_all(SHEAR, (cube,)))
        self.assertFalse(parts_all(SHEAR, []))
        self.assertEqual(part_degree(trivial(5, 2)), 1)
        self.assertEqual(telling_degree(trivial(97, 1)), 96)
        self.assertEqual(telling_degree(trivial(13, 2)), 24)

    def test_telling_degree(self):
        for name, one in small_houses().items():
            found = self.unchanged(telling_degree, one)
            self.assertLessEqual(part_degree(one), found, name)
            full = one.wide * (one.prime - 1)
            if is_mild(one):
                self.assertEqual(found, full, name)
            self.assertGreaterEqual(found, full)
            if len(orbits(one)) <= 30:
                self.assertEqual(found, slow_telling_degree(one), name)

    def test_telling(self):
        for name, one in small_houses().items():
            many = len(orbits(one))
            for seed in range(3):
                numbers = [(seed * k * k + 7 * k - 3 * seed) for k in range(many)]
                found = self.unchanged(telling, one, numbers)
                self.assertTrue(is_unswayed(one, found), name)
                self.assertLessEqual(found.degree, telling_degree(one))
                self.assertEqual(values(one, found), [number % one.prime for number in numbers], name)
            self.assertEqual(values(one, telling(one, (0,) * many)), [0] * many)

    def test_each_single_orbit(self):
        for at in range(5):
            numbers = [int(k == at) for k in range(5)]
            self.assertEqual(values(SHEAR, telling(house=SHEAR, numbers=numbers)), numbers)

    def test_fewest_parting(self):
        for name, one in small_houses().items():
            found = self.unchanged(fewest_parting, one)
            many = len(orbits(one))
            self.assertGreaterEqual(one.prime ** len(found), many, name)
            self.assertLess(one.prime ** (len(found) - 1), many, name)
            self.assertTrue(all(is_unswayed(one, poly) for poly in found))
            self.assertEqual(len(set(zip(*[values(one, poly) for poly in found]))), many)
            self.assertIs(parts_all(one, found), True)
            self.assertIs(parts_all(one, found[1:]), False)
        self.assertEqual(len(fewest_parting(house=SHEAR)), 2)

    def test_parts_all(self):
        one = house(5, [[4, 0], [0, 4]])
        x, y = letter(5, 2, 0), letter(5, 2, 1)
        lot = [poly_product(x, x), poly_product(x, y), poly_product(y, y)]
        self.assertIs(self.unchanged(parts_all, one, lot), True)
        self.assertIs(parts_all(one, lot[:2]), False)
        self.assertIs(parts_all(one, lot + [constant(5, 2, 2), Poly(5, 2, {})]), True)
        self.assertIs(parts_all(one, [poly_power(x, 120)]), False)


class LimitTest(ToolCase):
    def test_200_points_and_more(self):
        for one in (trivial(17, 2), trivial(7, 3), trivial(97, 3)):
            for call in (part_degree, telling_degree, fewest_parting):
                self.refused(("TooMany", 200), call, one)
            self.refused(("TooMany", 200), parts_all, one, [])
            self.refused(("BadPoly",), parts_all, one, [None])
        self.refused(("TooMany", 200), telling, trivial(17, 2), [0] * 289)
        self.refused(("BadNumber", "numbers"), telling, trivial(17, 2), [0] * 288)
        self.refused(("TooMany", 200), telling, house(17, [[16, 0], [0, 16]]), [0] * 145)
        self.refused(("BadNumber", "numbers"), telling, house(17, [[16, 0], [0, 16]]), [0] * 289)

    def test_degrees_above_120(self):
        one = house(13, [[1, 1], [0, 1]])
        self.assertEqual(part_degree(one), 13)
        self.refused(("TooMany", 120), telling_degree, one)
        self.refused(("TooMany", 120), telling, one, [0] * 25)
        self.refused(("BadNumber", "numbers"), telling, one, [0] * 24)
        self.refused(("TooMany", 120), fewest_parting, one)
        self.assertEqual(telling_degree(house(11, [[1, 1], [0, 1]])), 110)

    def test_degrees_of_more_than_300_rows(self):
        # To tell all numbers of the points (a, 0, c) a Poly of degree 20 + 4 is needed.
        one = house(5, PLANES[0])
        self.assertEqual(part_degree(one), 5)
        self.refused(("TooMany", 300), telling_degree, one)
        self.refused(("TooMany", 300), telling, one, [1] * len(orbits(one)))
        self.refused(("TooMany", 300), telling, one, [0] * len(orbits(one)))
        self.refused(("BadNumber", "numbers"), telling, one, [0] * 125)
        self.refused(("TooMany", 300), fewest_parting, one)
        # The points (a, 0, 0) are parted from degree 25 on.
        for call in (part_degree, telling_degree, fewest_parting):
            self.refused(("TooMany", 300), call, house(5, *PLANES))

    def test_wrong(self):
        for thing in NO_OBJECTS:
            for call in (part_degree, telling_degree, fewest_parting):
                self.refused(("BadHouse", None), call, thing)
            self.refused(("BadHouse", None), telling, thing, None)
            self.refused(("BadHouse", None), parts_all, thing, None)
        for numbers in (None, 1, "abcde", [], [1] * 4, [1] * 6, {k: 1 for k in range(5)}) + NO_NUMBERS:
            self.refused(("BadNumber", "numbers"), telling, SHEAR, numbers)
        for number in NO_NUMBERS:
            self.refused(("BadNumber", "numbers"), telling, SHEAR, [1, 2, 3, 4, number])
        b = letter(3, 2, 1)
        for polys in (None, 1, "a", {}, b, [None], [b, 1], [b, letter(3, 2, 0)], [letter(5, 2, 1)],
                      [letter(3, 3, 1)], {0: b}):
            self.refused(("BadPoly",), parts_all, SHEAR, polys)


if __name__ == "__main__":
    unittest.main()
