"""Point [41] and the facts of [42], unswayed/degrees.py."""

import unittest

from tests.tools import (
    NO_NUMBERS, NO_OBJECTS, ToolCase, all_houses, all_rows, house, is_slow_unswayed, signed, slow_led, slow_rank,
    small_houses, some_table, table, trivial)
from unswayed.degrees import count_of, led_table, unswayed_of
from unswayed.houses import house_led, is_mild
from unswayed.leadings import is_unswayed
from unswayed.means import mean
from unswayed.polys import Poly, is_level, layer_of, poly_sum, rows_of
from unswayed.tables import Table, plain, times, trace


def numbers_of(poly, rows):
    return [poly.terms.get(row, 0) for row in rows]


def slow_count(one, degree):
    """The number of rows less the rank of all led(row) less row, over all tables."""
    rows = all_rows(one.wide, degree)
    gaps = []
    for row in rows:
        poly = Poly(one.prime, one.wide, {row: 1})
        line = []
        for each in one.tables:
            line += [x - y for x, y in zip(numbers_of(slow_led(poly, each), rows), numbers_of(poly, rows))]
        gaps.append(line)
    return len(rows) - slow_rank(gaps, one.prime)


class UnswayedTest(ToolCase):
    def test_many_houses(self):
        for name, one in all_houses().items():
            for degree in range(6):
                found = self.unchanged(unswayed_of, one, degree)
                self.assertEqual(count_of(one, degree), len(found))
                self.assertTrue(all(is_level(each) and each.degree == degree for each in found))
                self.assertTrue(all(is_unswayed(one, each) for each in found), name)
                least = [min(each.terms) for each in found]
                self.assertEqual(least, sorted(set(least)), name)
                for at, row in enumerate(least):
                    self.assertEqual([each.terms.get(row, 0) for each in found], [int(k == at) for k in range(len(found))])

    def test_counts_a_second_way(self):
        for name, one in small_houses().items():
            if one.size <= 24:
                for degree in range(5 if one.wide == 3 else 7):
                    self.assertEqual(count_of(one, degree), slow_count(one, degree), (name, degree))

    def test_all_tables_leave_them(self):
        for name in ("signed 3 3", "all 3 2", "special 3 2", "triangles 2 3"):
            one = small_houses()[name]
            for degree in range(9):
                for each in unswayed_of(one, degree):
                    self.assertTrue(is_slow_unswayed(one, each), name)

    def test_by_hand(self):
        one = house(5, [[4, 0], [0, 4]])
        self.assertEqual([each.terms for each in unswayed_of(house=one, degree=2)],
                         [{(0, 2): 1}, {(1, 1): 1}, {(2, 0): 1}])
        self.assertEqual(unswayed_of(one, 3), [])
        self.assertEqual([each.terms for each in unswayed_of(one, 0)], [{(0, 0): 1}])
        self.assertEqual([count_of(house=one, degree=d) for d in (0, 1, 2, 3, 4, 119, 120)], [1, 0, 3, 0, 5, 0, 121])
        shear = house(3, [[1, 1], [0, 1]])
        self.assertEqual([each.terms for each in unswayed_of(shear, 3)], [{(0, 3): 1}, {(1, 2): 1, (3, 0): 2}])
        self.assertEqual([each.terms for each in unswayed_of(house(5, [[0, 1], [1, 0]]), 1)], [{(0, 1): 1, (1, 0): 1}])

    def test_high_degrees(self):
        self.assertEqual(count_of(trivial(5, 3), 23), 300)
        self.assertEqual([each.terms for each in unswayed_of(trivial(2, 2), 120)],
                         [{row: 1} for row in rows_of(2, 120)])
        self.assertEqual(count_of(house(97, [[96]]), 119), 0)
        self.assertEqual([each.terms for each in unswayed_of(house(97, [[96]]), 120)], [{(120,): 1}])
        self.assertEqual(count_of(signed(97), 22), 16)
        self.assertEqual(count_of(signed(97), 23), 0)
        self.assertEqual(count_of(house(3, [[1, 1], [0, 1]]), 120), 41)

    def test_300_rows_and_more(self):
        for call in (unswayed_of, count_of):
            for degree in (24, 120):
                self.refused(("TooMany", 300), call, trivial(5, 3), degree)
            for degree in (-1, 121) + NO_NUMBERS:
                self.refused(("BadNumber", "degree"), call, trivial(5, 3), degree)
            for thing in NO_OBJECTS + (plain(5, 2),):
                self.refused(("BadHouse", None), call, thing, None)

    def test_layers_of_unswayed_polys(self):
        for name, one in small_houses().items():
            total = Poly(one.prime, one.wide, {})
            for degree in range(5):
                for each in unswayed_of(one, degree)[:2]:
                    total = poly_sum(total, each)
            self.assertTrue(all(is_unswayed(one, layer_of(total, degree)) for degree in range(5)), name)

    def test_counts_stay_in_other_coordinates(self):
        for name, one in all_houses().items():
            g = table(one.prime, *[[1 if k >= at else 0 for k in range(one.wide)] for at in range(one.wide)])
            for degree in range(6):
                self.assertEqual(count_of(house_led(one, g), degree), count_of(one, degree), name)


class LedTableTest(ToolCase):
    def test_columns(self):
        for prime, wide in ((2, 1), (3, 2), (97, 2), (5, 3), (2, 3)):
            for degree in range(5):
                one = some_table(prime, wide, wide, degree)
                found = self.unchanged(led_table, one, degree)
                rows = rows_of(wide, degree)
                self.assertEqual((found.prime, found.tall, found.wide), (prime, len(rows), len(rows)))
                for k, row in enumerate(rows):
                    image = slow_led(Poly(prime, wide, {row: 1}), one)
                    self.assertEqual([line[k] for line in found.lines], numbers_of(image, rows))

    def test_products(self):
        for prime, wide, degree in ((2, 3, 4), (5, 2, 7), (97, 3, 3), (3, 1, 120)):
            one, two = some_table(prime, wide, wide, 1), some_table(prime, wide, wide, 2)
            self.assertEqual(
                led_table(times(one, two), degree), times(led_table(two, degree), led_table(one, degree)))

    def test_by_hand(self):
        self.assertEqual(led_table(table=table(5, [1, 2], [0, 3]), degree=1), table(5, [3, 2], [0, 1]))
        self.assertEqual(led_table(table(5, [1, 2], [0, 3]), 0), plain(5, 1))
        self.assertEqual(led_table(table(5, [2]), 120), plain(5, 1))

    def test_counts(self):
        for name, one in all_houses().items():
            if is_mild(one):
                for degree in range(6):
                    total = sum(trace(led_table(each, degree)) for each in one.tables)
                    undone = pow(one.size, -1, one.prime)
                    self.assertEqual(count_of(one, degree) % one.prime, total * undone % one.prime, name)

    def test_counts_are_ranks_of_means(self):
        for name, one in small_houses().items():
            if is_mild(one):
                for degree in range(5):
                    rows = rows_of(one.wide, degree)
                    means = [numbers_of(mean(one, Poly(one.prime, one.wide, {row: 1})), rows) for row in rows]
                    self.assertEqual(count_of(one, degree), slow_rank(means, one.prime), name)

    def test_60_rows_and_more(self):
        self.assertEqual(led_table(plain(5, 2), 59), plain(5, 60))
        self.refused(("TooMany", 60), led_table, plain(5, 2), 60)
        self.assertEqual(led_table(plain(5, 3), 9), plain(5, 55))
        self.refused(("TooMany", 60), led_table, plain(5, 3), 10)
        self.refused(("TooMany", 60), led_table, plain(5, 3), 120)
        for degree in (-1, 121) + NO_NUMBERS:
            self.refused(("BadNumber", "degree"), led_table, plain(5, 3), degree)
        for thing in NO_OBJECTS + (plain(5, 0), plain(5, 4), Table(5, 1, 2, [[1, 1]])):
            self.refused(("BadTable",), led_table, thing, None)


if __name__ == "__main__":
    unittest.main()
