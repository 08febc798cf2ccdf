"""Point [129], unswayed/placed.py."""

import itertools
import unittest

from tests.tools import (
    NO_NUMBERS, NO_OBJECTS, ToolCase, all_points, drawn_table, house, many_houses, signed, slow_moved, slow_rank, small_houses,
    trivial)
from unswayed.houses import house_led
from unswayed.inner import inner_classes, inner_houses, is_inner
from unswayed.orbitcounts import orbits, orbits_many
from unswayed.placed import kept_points, placed_orbits
from unswayed.tables import plain
from unswayed.widefields import WideField, far_moved

H = house(5, [[4, 0], [0, 4]])
SIGNED = house(5, [[0, 1], [1, 0]], [[4, 0], [0, 1]])
SPECIAL = small_houses()["special 3 2"]


def mid_houses():
    return {name: one for name, one in many_houses().items() if one.size <= 24}


def lines_of(one):
    return tuple(each.lines for each in one.tables)


def freedom(one):
    """The number of unknowns less the rank of all tables less plain."""
    lines = [[x - int(at == k) for k, x in enumerate(line)] for each in one.tables for at, line in enumerate(each.lines)]
    return one.wide - slow_rank(lines, one.prime)


class KeptPointsTest(ToolCase):
    def test_points_of_the_field(self):
        for name, one in mid_houses().items():
            if one.prime ** one.wide <= 400:
                counts = {}
                for point in all_points(one.prime, one.wide):
                    lot = tuple(each.lines for each in one.tables if slow_moved(each, point) == point)
                    counts[lot] = counts.get(lot, 0) + 1
                houses = inner_houses(one)
                for inner in houses[:8] + houses[-3:]:
                    self.assertEqual(self.unchanged(kept_points, one, inner, 1), counts.get(lines_of(inner), 0), name)

    def test_points_of_wide_fields(self):
        for name, one in mid_houses().items():
            for times in (2, 3):
                if one.prime ** (times * one.wide) <= 100:
                    field = WideField(one.prime, times)
                    counts = {}
                    for point in itertools.product(all_points(one.prime, times), repeat=one.wide):
                        lot = tuple(each.lines for each in one.tables if far_moved(field, each, point) == point)
                        counts[lot] = counts.get(lot, 0) + 1
                    for inner in inner_houses(one):
                        self.assertEqual(kept_points(one, inner, times), counts.get(lines_of(inner), 0), name)

    def test_ranks_tell_the_sums(self):
        for name, one in mid_houses().items():
            if one.size <= 12 or one == SPECIAL:
                houses = inner_houses(one)
                for times in (1, 2, 1000):
                    numbers = [kept_points(one, inner, times) for inner in houses]
                    self.assertGreaterEqual(min(numbers), 0)
                    for inner in houses:
                        total = sum(number for number, other in zip(numbers, houses) if is_inner(other, inner))
                        self.assertEqual(total, one.prime ** (times * freedom(inner)), name)

    def test_points_that_plain_alone_keeps(self):
        for name, one in mid_houses().items():
            times = next(k for k in range(1, 9) if one.prime ** k > one.size)
            self.assertGreater(kept_points(one, trivial(one.prime, one.wide), times), 0, name)

    def test_by_hand(self):
        self.assertEqual(kept_points(house=SIGNED, inner=trivial(5, 2), times=1), 8)
        self.assertEqual(kept_points(SIGNED, SIGNED, 1000), 1)
        self.assertEqual(kept_points(SIGNED, H, 7), 0)
        self.assertEqual(kept_points(H, trivial(5, 2), 1000), 5 ** 2000 - 1)

    def test_errors_in_their_sequence(self):
        for thing in NO_OBJECTS + (plain(5, 2),):
            self.refused(("BadHouse", None), kept_points, thing, H, None)
            self.refused(("BadHouse", None), kept_points, H, thing, None)
            self.refused(("BadHouse", None), placed_orbits, thing, None)
        for other in (SIGNED, trivial(3, 2), trivial(5, 3), trivial(5, 1), house(5, [[2, 0], [0, 2]])):
            self.refused(("BadInner",), kept_points, H, other, None)
        large = signed(5)
        for times in NO_NUMBERS + (0, -1, 1001):
            self.refused(("BadNumber", "times"), kept_points, H, H, times)
            self.refused(("BadNumber", "times"), kept_points, large, large, times)
            self.refused(("BadNumber", "times"), placed_orbits, large, times)
        for one in (large, house(97, [[25]]), house(29, [[1, 1], [0, 1]])):
            self.refused(("TooMany", 24), kept_points, one, one, 1)
            self.refused(("TooMany", 24), placed_orbits, one, 1)


class PlacedOrbitsTest(ToolCase):
    def test_orbits_of_the_field(self):
        for name, one in mid_houses().items():
            if one.prime ** one.wide <= 200:
                expected = [0] * len(inner_classes(one))
                lots = [[lines_of(inner) for inner in lot] for lot in inner_classes(one)]
                for orbit in orbits(one):
                    kept = tuple(each.lines for each in one.tables if slow_moved(each, orbit[0]) == orbit[0])
                    expected[[kept in lot for lot in lots].index(True)] += 1
                self.assertEqual(self.unchanged(placed_orbits, one, 1), expected, name)

    def test_sums(self):
        for name, one in mid_houses().items():
            for times in (1, 2, 3, 1000):
                found = placed_orbits(one, times)
                self.assertIsInstance(found, list)
                self.assertEqual(sum(found), orbits_many(one, times), name)
            if one.size <= 12:
                for number, lot in zip(placed_orbits(one, 4), inner_classes(one)):
                    self.assertEqual(number * (one.size // lot[0].size), sum(kept_points(one, inner, 4) for inner in lot), name)

    def test_by_hand(self):
        self.assertEqual(placed_orbits(house=H, times=1), [12, 1])
        self.assertEqual([len(lot) for lot in inner_classes(SPECIAL)], [1, 1, 4, 3, 4, 1, 1])
        # In the field each point but 0 is kept by three tables: (9 - 1) / 8 orbits.
        self.assertEqual(placed_orbits(SPECIAL, 1), [0, 0, 1, 0, 0, 0, 1])
        self.assertEqual(placed_orbits(SPECIAL, 2), [(81 - 1 - 4 * 8) // 24, 0, 4 * 8 * 3 // 24, 0, 0, 0, 1])

    def test_other_coordinates(self):
        for name, one in mid_houses().items():
            other = house_led(one, drawn_table(one.prime, one.wide, name + "placed"))
            self.assertEqual(sorted(placed_orbits(other, 3)), sorted(placed_orbits(one, 3)), name)


if __name__ == "__main__":
    unittest.main()
