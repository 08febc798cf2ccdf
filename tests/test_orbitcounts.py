"""Point [52], unswayed/orbitcounts.py."""

import itertools
import unittest

from tests.tools import (
    NO_NUMBERS, NO_OBJECTS, ToolCase, all_houses, all_points, house, signed, slow_moved, slow_orbit, small_houses,
    trivial)
from unswayed.orbitcounts import fixing, orbit_sizes, orbits, orbits_many
from unswayed.widefields import WideField, far_moved


def slow_sizes(one, times):
    """How many orbits of each size the far points of a wide field of degree times make."""
    field = WideField(one.prime, times)
    numbers = list(itertools.product(range(one.prime), repeat=times))
    sizes = {}
    for point in itertools.product(numbers, repeat=one.wide):
        many = len({far_moved(field, each, point) for each in one.tables})
        sizes[many] = sizes.get(many, 0) + 1
    return {many: sizes[many] // many for many in sorted(sizes)}


class CountTest(ToolCase):
    def test_orbits(self):
        for name, one in small_houses().items():
            found = self.unchanged(orbits, one)
            expected = sorted({tuple(slow_orbit(one, point)) for point in all_points(one.prime, one.wide)})
            self.assertEqual(found, expected, name)
            self.assertTrue(all(isinstance(orbit, tuple) for orbit in found))

    def test_fixing(self):
        for name, one in small_houses().items():
            expected = [0] * (one.wide + 1)
            for each in one.tables:
                many = sum(slow_moved(each, point) == point for point in all_points(one.prime, one.wide))
                expected[[one.prime ** i for i in range(one.wide + 1)].index(many)] += 1
            self.assertEqual(self.unchanged(fixing, one), tuple(expected), name)
        for one in all_houses().values():
            self.assertEqual(sum(fixing(one)), one.size)
            self.assertEqual(fixing(one)[one.wide], 1)

    def test_with_times_1(self):
        for name, one in small_houses().items():
            sizes = {}
            for orbit in orbits(one):
                sizes[len(orbit)] = sizes.get(len(orbit), 0) + 1
            found = self.unchanged(orbit_sizes, one, 1)
            self.assertEqual(list(found.items()), sorted(sizes.items()), name)
            self.assertEqual(orbits_many(one, 1), len(orbits(one)), name)

    def test_wider_fields(self):
        seen = 0
        for name, one in small_houses().items():
            for times in (2, 3):
                if one.prime ** (one.wide * times) <= 800:
                    found = orbit_sizes(one, times)
                    self.assertEqual(list(found.items()), list(slow_sizes(one, times).items()), (name, times))
                    self.assertEqual(orbits_many(one, times), sum(found.values()), name)
                    seen += 1
        self.assertGreater(seen, 12)

    def test_facts(self):
        for name, one in all_houses().items():
            for times in (1, 2, 5, 1000):
                fixed = sum(many * one.prime ** (i * times) for i, many in enumerate(fixing(one)))
                self.assertEqual(fixed % one.size, 0)
                self.assertEqual(orbits_many(one, times), fixed // one.size)
                sizes = orbit_sizes(one, times)
                self.assertEqual(list(sizes), sorted(sizes))
                self.assertTrue(all(many > 0 for many in sizes.values()))
                self.assertEqual(sum(sizes.values()), orbits_many(one, times), name)
                self.assertEqual(
                    sum(size * many for size, many in sizes.items()), one.prime ** (one.wide * times), name)
                self.assertTrue(all(one.size % size == 0 for size in sizes))

    def test_by_hand(self):
        one = house(3, [[1, 1], [0, 1]])
        self.assertEqual(fixing(house=one), (0, 2, 1))
        self.assertEqual(orbits_many(house=one, times=1), 5)
        self.assertEqual(orbit_sizes(house=one, times=1), {1: 3, 3: 2})
        self.assertEqual(orbits(house=one), [
            ((0, 0),), ((0, 1), (1, 1), (2, 1)), ((0, 2), (1, 2), (2, 2)), ((1, 0),), ((2, 0),)])
        self.assertEqual(orbit_sizes(house(2, [[0, 1], [1, 0]], [[1, 1], [0, 1]]), 1), {1: 1, 3: 1})
        self.assertEqual(orbit_sizes(signed(97), 1)[48], 96 * 94 * 92 // 48)

    def test_200_points_and_more(self):
        self.assertEqual(len(orbits(trivial(13, 2))), 169)
        self.assertEqual(len(orbits(trivial(97, 1))), 97)
        self.assertEqual(len(orbits(trivial(5, 3))), 125)
        for prime, wide in ((17, 2), (7, 3), (97, 3)):
            self.refused(("TooMany", 200), orbits, trivial(prime, wide))

    def test_wrong(self):
        for thing in NO_OBJECTS:
            self.refused(("BadHouse", None), fixing, thing)
            self.refused(("BadHouse", None), orbits, thing)
            for call in (orbits_many, orbit_sizes):
                self.refused(("BadHouse", None), call, thing, None)
        for times in (0, 1001, -1) + NO_NUMBERS:
            for call in (orbits_many, orbit_sizes):
                self.refused(("BadNumber", "times"), call, trivial(5, 2), times)


if __name__ == "__main__":
    unittest.main()
