"""Points [62] and [63], unswayed/rowsfar.py."""

import itertools
import unittest
from math import comb, lcm

from tests.tools import (
    NO_NUMBERS, NO_OBJECTS, ToolCase, drawn_table, house, is_slow_mirror, many_houses, mild_houses, signed,
    slow_determinant, slow_led, slow_order, slow_rank, small_houses, table, trivial)
from unswayed.degrees import count_of
from unswayed.freelots import free_lot
from unswayed.houses import house_beside, house_led, is_mild
from unswayed.polys import Poly, poly_product, poly_scaled, rows_of
from unswayed.rowsfar import count_far, first_unlike, reads_same, row_of, row_over, row_tells, turned_row

H = house(5, [[4, 0], [0, 4]])
SHEAR = small_houses()["shear 3 2"]


def lessened(counts, degree):
    return [number - (counts[at - degree] if at >= degree else 0) for at, number in enumerate(counts)]


def far_counts(one, many):
    return [count_far(one, degree) for degree in range(many)]


def slow_turned(one, degree):
    """How many independent level Polys of this degree have led(poly, g) times the determinant of g equal to poly."""
    rows = rows_of(one.wide, degree)
    gaps = []
    for row in rows:
        poly = Poly(one.prime, one.wide, {row: 1})
        line = []
        for each in one.tables:
            image = poly_scaled(slow_led(poly, each), slow_determinant(each.lines))
            line += [image.terms.get(other, 0) - int(other == row) for other in rows]
        gaps.append(line)
    return len(rows) - slow_rank(gaps, one.prime)


class RowTest(ToolCase):
    def test_rows_tell_the_counts_of_linear_algebra(self):
        for name, one in mild_houses().items():
            period, tops = self.unchanged(row_of, one)
            self.assertEqual(period, lcm(*[slow_order(each) for each in one.tables]), name)
            self.assertIsInstance(tops, tuple)
            self.assertNotEqual(tops[-1], 0)
            self.assertLessEqual(len(tops), one.wide * (period - 1) + 1)
            for degree in range(24 if one.wide < 3 else 9):
                told = sum(
                    number * comb((degree - at) // period + one.wide - 1, one.wide - 1)
                    for at, number in enumerate(tops) if at <= degree and (degree - at) % period == 0)
                self.assertEqual(told, count_of(one, degree), (name, degree))
                self.assertEqual(count_far(one, degree), told, (name, degree))

    def test_tops_are_the_lessened_counts(self):
        for name, one in mild_houses().items():
            period, tops = row_of(one)
            counts = [count_of(one, degree) for degree in range(10)]
            for _ in range(one.wide):
                counts = lessened(counts, period)
            self.assertEqual(counts, (list(tops) + [0] * 10)[:10], name)

    def test_degrees_up_to_those_of_300_rows(self):
        for one in (signed(97), small_houses()["cycle 2 3"], trivial(3, 3)):
            for degree in (20, 22, 23):
                self.assertEqual(count_far(one, degree), count_of(one, degree))
        for one in (H, small_houses()["quaternions 3 2"]):
            for degree in (100, 119, 120):
                self.assertEqual(count_far(one, degree), count_of(one, degree))
        for degree in (47, 48, 96, 120):
            self.assertEqual(count_far(house(97, [[25]]), degree), count_of(house(97, [[25]]), degree))
        long = house(97, [[25, 0], [0, 25]])
        self.assertEqual(long.size, 48)
        self.assertEqual([count_far(long, degree) for degree in (0, 1, 47, 48, 49, 96)], [1, 0, 0, 49, 0, 97])

    def test_far_degrees(self):
        self.assertEqual(row_of(house=H), (2, (1, 0, 1)))
        self.assertEqual(count_far(house=H, degree=10 ** 30), 10 ** 30 + 1)
        self.assertEqual(count_far(H, 10 ** 30 + 1), 0)
        self.assertEqual(count_far(trivial(2, 3), 10 ** 40), (10 ** 40 + 2) * (10 ** 40 + 1) // 2)
        self.assertEqual(count_far(trivial(2, 1), 10 ** 40), 1)
        self.assertEqual(count_far(house(7, [[3]]), 6 * 10 ** 30), 1)
        self.assertEqual(count_far(house(7, [[3]]), 6 * 10 ** 30 + 3), 0)
        # With x + y + z, and so on, as makers: as many as ways to sum up 1s, 2s and 3s.
        one = small_houses()["exchanges 5 3"]
        far = 6 * 10 ** 12
        self.assertEqual(count_far(one, far), (far + 6) ** 2 // 12 - (far + 6) // 2 + 1)

    def test_lessened_by_the_period_nothing_is_left(self):
        for name, one in mild_houses().items():
            period, _ = row_of(one)
            counts = far_counts(one, one.wide * period + 8)
            for _ in range(one.wide):
                counts = lessened(counts, period)
            self.assertEqual(counts[one.wide * (period - 1) + 1:], [0] * (one.wide + 7), name)

    def test_rows_stay_in_other_coordinates(self):
        for name, one in mild_houses().items():
            other = house_led(one, drawn_table(one.prime, one.wide, name + "!"))
            self.assertEqual(row_of(other), row_of(one), name)
            self.assertIsNone(first_unlike(one, other), name)

    def test_counts_of_houses_beside_one_another(self):
        ones = [house(13, [[5]]), house(13, [[3]]), trivial(13, 1)]
        twos = [house(13, [[5, 0], [0, 8]]), house(13, [[0, 1], [1, 0]])]
        for one, two in itertools.product(ones, twos + ones):
            both = house_beside(one, two)
            first, second = far_counts(one, 30), far_counts(two, 30)
            for degree in range(30):
                self.assertEqual(
                    count_far(both, degree), sum(first[at] * second[degree - at] for at in range(degree + 1)))

    def test_wrong_inputs(self):
        for call, more in ((row_of, ()), (count_far, (None,)), (row_over, (None,)), (turned_row, ()), (reads_same, ())):
            for thing in NO_OBJECTS + (table(5, [1]),):
                self.refused(("BadHouse", None), call, thing, *more)
            for name, one in many_houses().items():
                if not is_mild(one):
                    self.refused(("NoMean",), call, one, *more)
        for degree in (-1, -10 ** 30) + NO_NUMBERS:
            self.refused(("BadNumber", "degree"), count_far, H, degree)


class OverTest(ToolCase):
    def test_degrees_of_free_lots(self):
        for name, one in mild_houses().items():
            degrees = [poly.degree for poly in free_lot(one)]
            found = self.unchanged(row_over, one, degrees)
            self.assertTrue(all(number >= 0 for number in found), name)
            product = 1
            for degree in degrees:
                product *= degree
            self.assertEqual(sum(found) * one.size, product, name)
            self.assertLessEqual(len(found) - 1, sum(degrees) - one.wide)
            counts = far_counts(one, 60)
            for degree in degrees:
                counts = lessened(counts, degree)
            self.assertEqual(tuple(counts), (found + (0,) * 60)[:60], name)
            self.assertEqual(row_over(one, tuple(degrees[::-1])), found)

    def test_any_degrees(self):
        for name in ("minus 5 2", "signed 5 2", "quaternions 3 2", "all 7 1", "cycle 2 3", "plain 3 3"):
            one = small_houses()[name]
            for degrees in itertools.product((1, 2, 3, 4, 6), repeat=one.wide):
                counts = far_counts(one, 80)
                for degree in degrees:
                    counts = lessened(counts, degree)
                found = row_over(one, degrees)
                if any(counts[60:]):
                    self.assertIsNone(found, (name, degrees))
                else:
                    self.assertEqual(tuple(counts), found + (0,) * (80 - len(found)), (name, degrees))

    def test_by_hand(self):
        self.assertEqual(row_over(house=H, degrees=[2, 2]), (1, 0, 1))
        self.assertEqual(row_over(H, [2, 4]), (1, 0, 2, 0, 1))
        self.assertIsNone(row_over(H, [2, 3]))
        self.assertEqual(row_over(trivial(5, 2), [1, 1]), (1,))
        self.assertEqual(row_over(trivial(5, 2), (120, 120))[119], 120)
        self.assertEqual(row_over(house(7, [[3]]), [6]), (1,))
        self.assertEqual(row_over(house(7, [[3]]), [12]), (1, 0, 0, 0, 0, 0, 1))
        self.assertIsNone(row_over(house(7, [[3]]), [3]))
        self.assertEqual(row_over(trivial(2, 1), [120]), (1,) * 120)

    def test_wrong_degrees(self):
        wrong = ([], [2], [2, 2, 2], [0, 2], [2, 121], [-2, 2], [True, 2], [2, None], "ab", {2: 2}, None, 2, [2.0, 2])
        for degrees in wrong:
            self.refused(("BadNumber", "degrees"), row_over, H, degrees)
        self.refused(("NoMean",), row_over, SHEAR, "ab")


class UnlikeTest(ToolCase):
    def test_second_way(self):
        houses = [one for _, one in sorted(mild_houses().items())][::2]
        counts = [far_counts(one, 60) for one in houses]
        for one, row in zip(houses, counts):
            for other, more in zip(houses, counts):
                unlike = [degree for degree in range(60) if row[degree] != more[degree]]
                self.assertEqual(first_unlike(one, other), unlike[0] if unlike else None)

    def test_by_hand(self):
        self.assertIsNone(first_unlike(one=H, other=house(97, [[96, 0], [0, 96]])))
        self.assertEqual(first_unlike(trivial(5, 2), H), 1)
        self.assertEqual(first_unlike(trivial(5, 2), trivial(5, 3)), 1)
        self.assertIsNone(first_unlike(trivial(5, 2), trivial(2, 2)))
        self.assertEqual(first_unlike(house(97, [[25]]), house(97, [[43]])), 24)
        self.assertEqual(first_unlike(house(97, [[25, 0], [0, 25]]), house(97, [[25, 0], [0, pow(25, 47, 97)]])), 2)
        # Unlike only in a degree in which there are more than 300 rows.
        long, short = [house(97, [[n, 0, 0], [0, n, 0], [0, 0, n]]) for n in (25, 43)]
        self.assertEqual((long.size, short.size, first_unlike(long, short)), (48, 24, 24))
        self.assertEqual(first_unlike(long, house(47, [[-1, 0, 0], [0, -1, 0], [0, 0, -1]])), 2)

    def test_wrong_inputs(self):
        for thing in NO_OBJECTS:
            self.refused(("BadHouse", None), first_unlike, thing, SHEAR)
            self.refused(("BadHouse", None), first_unlike, SHEAR, thing)
        self.refused(("NoMean",), first_unlike, SHEAR, H)
        self.refused(("NoMean",), first_unlike, H, SHEAR)


class TellsTest(ToolCase):
    def test_size_and_mirrors(self):
        for name, one in mild_houses().items():
            mirrors = [each for each in one.tables if is_slow_mirror(each)]
            found = self.unchanged(row_tells, one.wide, row_of(one))
            self.assertEqual(found, (one.size, len(mirrors)), name)

    def test_multiples_of_the_period(self):
        # Told over a multiple of the period the row has more tops; it tells the same.
        for name, one in mild_houses().items():
            period, tops = row_of(one)
            for many in (2, 3):
                numbers = list(tops)
                for _ in range(one.wide):
                    more = [0] * (len(numbers) + period * (many - 1))
                    for at, number in enumerate(numbers):
                        for step in range(many):
                            more[at + step * period] += number
                    numbers = more
                self.assertEqual(row_tells(one.wide, (period * many, tuple(numbers))), row_tells(one.wide, (period, tops)), name)

    def test_by_hand(self):
        self.assertEqual(row_tells(wide=2, row=(2, (1, 0, 1))), (2, 0))
        self.assertEqual(row_tells(1, (1, (1,))), (1, 0))
        self.assertEqual(row_tells(3, (10 ** 30, (1,))), (10 ** 90, 3 * (10 ** 30 - 1)))
        self.assertEqual(row_tells(2, (4, (3, -1))), (8, 7))
        self.assertEqual(row_tells(1, (5, (0, 1))), (5, 2))
        self.assertEqual(row_tells(2, (1, (1, 0, 0))), (1, 0))

    def test_wrong_inputs(self):
        good = (2, (1, 0, 1))
        for wide in (0, 4, -1) + NO_NUMBERS:
            self.refused(("BadNumber", "wide"), row_tells, wide, None)
        wrong = (
            None, 2, "ab", [2, (1, 0, 1)], (2, [1, 0, 1]), (2,), (2, (1,), 3), (0, (1,)), (-2, (1,)), (True, (1,)),
            (2, ()), (2, (True,)), (2, (1, None)), (2, (1.0,)), (2, (0,)), (2, (-1,)), (2, (3,)), (2, (1, -2)),
            (2.0, (1,)), (3, (2,)), (3, (1, 1, 1, 0, 1)))
        for row in wrong:
            self.refused(("BadRow",), row_tells, 2, row)
        self.assertEqual(row_tells(2, good), (2, 0))
        # The sum divides the power, but not twice the other sum.
        self.refused(("BadRow",), row_tells, 1, (9, (8, 1)))
        self.assertEqual(row_tells(1, (9, (0, 9))), (1, 6))


class TurnedTest(ToolCase):
    def test_second_way(self):
        for name, one in mild_houses().items():
            if one.size > 24:
                continue
            period, tops = self.unchanged(turned_row, one)
            self.assertEqual(period, row_of(one)[0])
            self.assertNotEqual(tops[-1], 0)
            for degree in range(6 if one.wide < 3 else 4):
                told = sum(
                    number * comb((degree - at) // period + one.wide - 1, one.wide - 1)
                    for at, number in enumerate(tops) if at <= degree and (degree - at) % period == 0)
                self.assertEqual(told, slow_turned(one, degree), (name, degree))

    def test_read_from_the_other_end(self):
        for name, one in mild_houses().items():
            period, tops = row_of(one)
            last = one.wide * (period - 1)
            _, turned = turned_row(one)
            for at in range(last + 1):
                there = tops[last - at] if last - at < len(tops) else 0
                self.assertEqual(turned[at] if at < len(turned) else 0, there, name)

    def test_reads_same_exactly_if_the_product_of_forms_is_turned(self):
        for name, one in mild_houses().items():
            product = Poly(one.prime, one.wide, {(0,) * one.wide: 1})
            mirrors = [each for each in one.tables if is_slow_mirror(each)]
            for each in mirrors:
                lines = [[x - int(at == k) for k, x in enumerate(line)] for at, line in enumerate(each.lines)]
                line = [line for line in lines if any(line)][0]
                product = poly_product(product, Poly(one.prime, one.wide, {
                    tuple(int(k == at) for k in range(one.wide)): number for at, number in enumerate(line)}))
            turned = all(
                poly_scaled(slow_led(product, each), slow_determinant(each.lines)) == product
                for each in (one.tables if one.size < 20 else one.few))
            self.assertEqual(self.unchanged(reads_same, one), turned, name)
            _, tops = row_of(one)
            self.assertEqual(reads_same(one), tops == tops[::-1])
            if not mirrors:
                ones = all(slow_determinant(each.lines) % one.prime == 1 for each in one.tables)
                self.assertEqual(reads_same(one), ones, name)

    def test_by_hand(self):
        self.assertEqual(turned_row(house=H), (2, (1, 0, 1)))
        self.assertIs(reads_same(house=H), True)
        self.assertEqual(row_of(house(5, [[4]])), (2, (1,)))
        self.assertEqual(turned_row(house(5, [[4]])), (2, (0, 1)))
        self.assertIs(reads_same(house(7, [[2, 0], [0, 2]])), False)
        self.assertEqual(turned_row(trivial(2, 3)), (1, (1,)))


if __name__ == "__main__":
    unittest.main()
