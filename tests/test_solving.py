"""Point [10], unswayed/solving.py."""

import itertools
import unittest

from tests.tools import NO_OBJECTS, ToolCase, slow_rank, some_table, table
from unswayed.solving import determinant, inverse, kernel, rank, solved, tidy
from unswayed.tables import Table, across, plain, times

SIZES = ((0, 0), (0, 3), (3, 0), (1, 1), (2, 4), (4, 2), (5, 5), (3, 7))


def tables():
    """Many tables, of low rank, too."""
    found = []
    for prime in (2, 3, 13, 97):
        for seed, (tall, wide) in enumerate(SIZES):
            found.append(some_table(prime, tall, wide, seed))
            for middle in (1, 2):
                found.append(times(some_table(prime, tall, middle, seed), some_table(prime, middle, wide, seed + 9)))
    return found


def leading_places(one):
    return [next(k for k, number in enumerate(line) if number) for line in one.lines if any(line)]


def slow_determinant(one):
    """The determinant, by all ways to choose one number of each line and column."""
    total = 0
    for places in itertools.permutations(range(one.tall)):
        part = 1
        for at, place in enumerate(places):
            part *= one.lines[at][place]
        swaps = sum(places[i] > places[j] for i in range(one.tall) for j in range(i + 1, one.tall))
        total += (-1) ** swaps * part
    return total % one.prime


class TidyTest(ToolCase):
    def test_by_hand(self):
        one = Table(5, 3, 4, [[0, 2, 4, 1], [0, 1, 2, 0], [3, 0, 0, 1]])
        self.assertEqual(tidy(one), Table(5, 3, 4, [[1, 0, 0, 0], [0, 1, 2, 0], [0, 0, 0, 1]]))
        self.assertEqual(rank(one), 3)
        self.assertEqual(kernel(one), Table(5, 4, 1, [[0], [3], [1], [0]]))

    def test_form(self):
        for one in tables():
            reduced = tidy(one)
            places = leading_places(reduced)
            self.assertEqual((reduced.prime, reduced.tall, reduced.wide), (one.prime, one.tall, one.wide))
            self.assertEqual(places, sorted(set(places)))
            for at, place in enumerate(places):
                column = [line[place] for line in reduced.lines]
                self.assertEqual(column, [int(k == at) for k in range(one.tall)])
            self.assertFalse(any(any(line) for line in reduced.lines[len(places):]))

    def test_same_lines_are_told(self):
        for one in tables():
            many = slow_rank(one.lines, one.prime)
            self.assertEqual(rank(one), many)
            self.assertEqual(slow_rank(one.lines + tidy(one).lines, one.prime), many)
            self.assertEqual(slow_rank(tidy(one).lines, one.prime), many)
            self.assertEqual(rank(across(one)), many)

    def test_kernel(self):
        for one in tables():
            found = kernel(one)
            loose = [k for k in range(one.wide) if k not in leading_places(tidy(one))]
            self.assertEqual((found.tall, found.wide), (one.wide, len(loose)))
            self.assertEqual(times(one, found).lines, ((0,) * len(loose),) * one.tall)
            self.assertEqual(tuple(found.lines[k] for k in loose), plain(one.prime, len(loose)).lines)

    def test_60_lines(self):
        for prime in (2, 97):
            one = some_table(prime, 60, 60, 5)
            self.assertEqual(rank(one), slow_rank(one.lines, prime))
            self.assertEqual(rank(plain(prime, 60)), 60)
            self.assertEqual(kernel(plain(prime, 60)).wide, 0)
            self.assertEqual(tidy(Table(prime, 60, 60, [[prime - 1] * 60] * 60)).lines[0], (1,) * 60)
            self.assertEqual(rank(kernel(some_table(prime, 20, 60, 5))), 40)


class SolvedTest(ToolCase):
    def test_what_is_solved(self):
        for seed, one in enumerate(tables()):
            sought = some_table(one.prime, one.wide, 2, seed)
            goal = times(one, sought)
            found = solved(one, goal)
            self.assertEqual(times(one, found), goal)
            for place in range(one.wide):
                if place not in leading_places(tidy(one)):
                    self.assertEqual(found.lines[place], (0, 0))

    def test_what_is_not(self):
        for seed, one in enumerate(tables()):
            goal = some_table(one.prime, one.tall, 1, seed)
            beside = [line + more for line, more in zip(one.lines, goal.lines)]
            more = slow_rank(beside, one.prime) > slow_rank(one.lines, one.prime)
            self.assertEqual(solved(one, goal) is None, more)

    def test_by_hand(self):
        one = Table(5, 2, 3, [[1, 1, 0], [0, 0, 2]])
        self.assertEqual(solved(one=one, goal=Table(5, 2, 1, [[3], [1]])), Table(5, 3, 1, [[3], [0], [3]]))
        self.assertEqual(solved(one, Table(5, 2, 0, [[], []])), Table(5, 3, 0, [[]] * 3))
        self.assertIsNone(solved(table(5, [1, 1], [1, 1]), Table(5, 2, 1, [[1], [2]])))
        self.assertEqual(solved(Table(5, 0, 2, []), Table(5, 0, 3, [])), Table(5, 2, 3, [[0] * 3] * 2))

    def test_inverse(self):
        for prime in (2, 3, 97):
            for size in range(5):
                for seed in range(8):
                    one = some_table(prime, size, size, seed)
                    found = inverse(one)
                    self.assertEqual(found is None, slow_rank(one.lines, prime) < size)
                    if found is not None:
                        self.assertEqual(times(one, found), plain(prime, size))
                        self.assertEqual(times(found, one), plain(prime, size))
        self.assertIsNone(inverse(Table(5, 2, 3, [[1, 0, 0], [0, 1, 0]])))
        self.assertIsNone(inverse(Table(5, 0, 1, [])))
        self.assertEqual(inverse(plain(5, 0)), plain(5, 0))
        self.assertEqual(inverse(plain(97, 60)), plain(97, 60))

    def test_determinant(self):
        for prime in (2, 5, 97):
            for size in range(6):
                for seed in range(6):
                    one = some_table(prime, size, size, seed)
                    self.assertEqual(determinant(one), slow_determinant(one))
        self.assertEqual(determinant(plain(2, 0)), 1)
        self.assertEqual(determinant(table(7, [0, 1], [1, 0])), 6)
        self.assertEqual(determinant(Table(97, 60, 60, [[0] * k + [2] + [1] * (59 - k) for k in range(60)])),
                         pow(2, 60, 97))

    def test_unchanged(self):
        one = some_table(7, 4, 4, 3)
        for call in (tidy, rank, kernel, inverse, determinant):
            self.unchanged(call, one)
        self.unchanged(solved, one, one)


class WrongTest(ToolCase):
    def test_no_tables(self):
        for thing in NO_OBJECTS:
            for call in (tidy, rank, kernel, inverse, determinant):
                self.refused(("BadTable",), call, thing)
            self.refused(("BadTable",), solved, thing, plain(5, 2))
            self.refused(("BadTable",), solved, plain(5, 2), thing)

    def test_wrong_sizes(self):
        self.refused(("BadTable",), solved, plain(5, 2), plain(5, 3))
        self.refused(("BadTable",), solved, plain(5, 2), plain(7, 2))
        self.refused(("BadTable",), determinant, some_table(5, 2, 3, 0))
        self.refused(("BadTable",), determinant, some_table(5, 0, 1, 0))


if __name__ == "__main__":
    unittest.main()
