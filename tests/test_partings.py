"""Point [51], unswayed/partings.py."""

import unittest

from tests.tools import (
    NO_OBJECTS, PLANES, ToolCase, all_houses, all_points, house, large_houses, signed, slow_moved, small_houses, some_points,
    trivial)
from unswayed.degrees import unswayed_of
from unswayed.leadings import is_unswayed, leading
from unswayed.partings import is_parting, parting, parting_degree
from unswayed.polys import Poly, constant, letter, poly_power, poly_product, poly_sum, value_at

NO_POINTS = (None, 1, "ab", [1], [1, 2, 3], [1, None], [True, 1], [1, 1.0], {1: 1, 2: 2}, [[1, 2], [3, 4]])


def slow_degree(one, first, other):
    """The least degree in which one of unswayed_of parts the points; None above 23 in three unknowns."""
    for degree in range(1, one.size + 1):
        if one.wide == 3 and degree > 23:
            return None
        for poly in unswayed_of(one, degree):
            if value_at(poly, first) != value_at(poly, other):
                return degree
    return None


class PartingTest(ToolCase):
    def check_pair(self, name, one, first, other):
        found = parting(one, first, other)
        if any(slow_moved(each, first) == other for each in one.tables):
            self.assertIsNone(found, name)
            self.assertIsNone(parting_degree(one, first, other), name)
        else:
            self.assertIsInstance(found, Poly)
            self.assertTrue(is_unswayed(one, found), name)
            self.assertLessEqual(found.degree, one.size)
            self.assertNotEqual(value_at(found, first), value_at(found, other))
            self.assertIs(is_parting(one, first, other, found), True)

    def test_heart(self):
        for name, one in small_houses().items():
            points = all_points(one.prime, one.wide)
            for first in points[:4] + points[-2:]:
                for other in points[::1 if len(points) < 30 else 7]:
                    self.check_pair(name, one, first, other)

    def test_greater_primes(self):
        for name, one in large_houses().items():
            points = some_points(one, 2, 3) + [(0,) * one.wide, (1,) * one.wide]
            for first in points:
                for other in points + [slow_moved(one.tables[-1], first)]:
                    self.check_pair(name, one, first, other)

    def test_least_degrees(self):
        for name, one in all_houses().items():
            for first in some_points(one, 11, 2) + [(0,) * one.wide]:
                for other in some_points(one, 12, 2):
                    if leading(one, first, other) is None:
                        found = parting_degree(one, first, other)
                        self.assertEqual(found, slow_degree(one, first, other), name)
                        self.assertLessEqual(found, one.size)
                        self.assertEqual(found, parting_degree(one, other, first))

    def test_by_hand(self):
        one = house(3, [[1, 1], [0, 1]])
        self.assertIsNone(parting(house=one, one=[0, 1], other=[5, -2]))
        self.assertIsNone(parting_degree(house=one, one=[0, 1], other=[5, -2]))
        self.assertEqual(parting_degree(one, [1, 0], [2, 0]), 3)
        self.assertEqual(parting_degree(one, [0, 1], [0, 2]), 1)
        self.assertEqual(parting_degree(house(5, [[4, 0], [0, 4]]), [1, 0], [2, 0]), 2)
        self.assertEqual(parting_degree(house(97, [[pow(5, 2, 97)]]), [1], [5]), 48)
        self.assertEqual(parting(house(97, [[pow(5, 2, 97)]]), [1], [5]).degree, 48)
        self.unchanged(parting, one, [1, 0], [2, 0])
        self.unchanged(parting_degree, one, [1, 0], [2, 0])

    def test_degrees_of_more_than_300_rows(self):
        # All unswayed Polys of the 30 scalars have degrees that are multiples of 30.
        one = house(31, [[3, 0, 0], [0, 3, 0], [0, 0, 3]])
        self.assertEqual(one.size, 30)
        self.refused(("TooMany", 300), parting_degree, one, [1, 2, 3], [2, 2, 3])
        found = parting(one, [1, 2, 3], [2, 2, 3])
        self.assertEqual(found.degree, 30)
        self.assertTrue(is_parting(one, [1, 2, 3], [2, 2, 3], found))
        self.assertIsNone(parting_degree(one, [1, 2, 3], [3, 6, 9]))
        # Unswayed by this one are the Polys in y, z and one of degree 25.
        one = house(5, *PLANES)
        self.assertEqual(one.size, 25)
        self.refused(("TooMany", 300), parting_degree, one, [1, 0, 0], [2, 0, 0])
        self.assertEqual(parting(one, [1, 0, 0], [2, 0, 0]).degree, 25)
        self.assertEqual(parting_degree(house(23, [[5, 0, 0], [0, 5, 0], [0, 0, 5]]), [1, 2, 3], [2, 2, 3]), 22)
        self.assertEqual(parting_degree(house(47, [[4, 0, 0], [0, 4, 0], [0, 0, 4]]), [1, 2, 3], [2, 2, 3]), 23)
        number = pow(5, 3, 73)
        one = house(73, [[number, 0, 0], [0, number, 0], [0, 0, number]])
        self.assertEqual(one.size, 24)
        self.refused(("TooMany", 300), parting_degree, one, [1, 2, 3], [2, 2, 3])

    def test_equal_results_for_equal_arguments(self):
        one = house(3, [[1, 1], [0, 1]], [[1, 0], [1, 1]])
        again = house(3, [[1, 0], [1, 1]], [[1, 2], [0, 1]])
        self.assertEqual(one, again)
        self.assertEqual(parting(one, [0, 0], [1, 2]), parting(again, [0, 0], [1, 2]))

    def test_is_parting(self):
        one = house(5, [[4, 0], [0, 4]])
        x, y = letter(5, 2, 0), letter(5, 2, 1)
        square = poly_power(x, 2)
        points = [1, 0], [2, 0]
        self.assertIs(is_parting(house=one, one=points[0], other=points[1], thing=square), True)
        self.assertIs(is_parting(one, *points, poly_sum(square, constant(5, 2, 3))), True)
        for thing in NO_OBJECTS + (x, poly_sum(x, square), poly_product(y, y), constant(5, 2, 1), letter(7, 2, 0),
                                   poly_power(letter(5, 3, 0), 2), square.terms, one):
            self.assertIs(is_parting(one, *points, thing), False)
        self.assertIs(is_parting(one, [1, 0], [4, 0], square), False)
        self.assertIs(is_parting(one, [1, 0], [1, 0], square), False)
        self.assertIs(is_parting(one, [6, 0], [-3, 5], poly_power(x, 50)), True)

    def test_wrong(self):
        one = trivial(5, 2)
        for thing in NO_OBJECTS:
            self.refused(("BadHouse", None), parting, thing, None, None)
            self.refused(("BadHouse", None), parting_degree, thing, None, None)
            self.refused(("BadHouse", None), is_parting, thing, None, None, None)
        for point in NO_POINTS:
            for call in (parting, parting_degree):
                self.refused(("BadPoint",), call, one, point, [1, 2])
                self.refused(("BadPoint",), call, one, [1, 2], point)
            self.refused(("BadPoint",), is_parting, one, point, [1, 2], None)
            self.refused(("BadPoint",), is_parting, one, [1, 2], point, None)
        self.refused(("BadPoint",), parting_degree, signed(97), [1, 2, 3], [1, 2])


if __name__ == "__main__":
    unittest.main()
