"""Point [10], unswayed/tables.py."""

import unittest

from tests.tools import NO_NUMBERS, NO_OBJECTS, ToolCase, some_table
from unswayed.tables import Table, across, plain, plus, scaled, times, trace

NO_PRIMES = (0, 1, -2, 4, 9, 91, 95, 96, 98, 99, 101, 103)


class TableTest(ToolCase):
    def test_attributes(self):
        one = Table(5, 2, 3, [[1, 7, -1], (0, 10, 4)])
        self.assertEqual((one.prime, one.tall, one.wide), (5, 2, 3))
        self.assertEqual(one.lines, ((1, 2, 4), (0, 0, 4)))
        self.assertIsInstance(one.lines, tuple)
        self.assertIsInstance(one.lines[0], tuple)
        self.assertEqual(Table(prime=5, tall=1, wide=1, lines=[[3]]).lines, ((3,),))
        self.assertEqual(Table(97, 1, 2, ((10 ** 30, -10 ** 30),)).lines, ((10 ** 30 % 97, -10 ** 30 % 97),))

    def test_what_is_given_stays_and_is_not_kept(self):
        lines = [[1, 7], [-1, 2]]
        one = Table(5, 2, 2, lines)
        self.assertEqual(lines, [[1, 7], [-1, 2]])
        lines[0][0] = 3
        self.assertEqual(one.lines, ((1, 2), (4, 2)))

    def test_sizes_0_and_60(self):
        self.assertEqual(Table(2, 0, 0, []).lines, ())
        self.assertEqual(Table(2, 0, 60, []).lines, ())
        self.assertEqual(Table(2, 2, 0, [[], ()]).lines, ((), ()))
        self.assertEqual(Table(97, 60, 60, [[1] * 60] * 60).lines, ((1,) * 60,) * 60)

    def test_primes(self):
        for prime in range(-5, 130):
            if prime > 1 and prime < 98 and all(prime % k for k in range(2, prime)):
                self.assertEqual(Table(prime, 1, 1, [[prime + 1]]).lines, ((1,),))
            else:
                self.refused(("BadPrime",), Table, prime, 1, 1, [[1]])
        self.refused(("BadPrime",), Table, 5.0, 1, 1, [[1]])
        for prime in NO_PRIMES + NO_NUMBERS:
            self.refused(("BadPrime",), Table, prime, 1, 1, [[1]])
            self.refused(("BadPrime",), Table, prime, None, None, None)

    def test_wrong_sizes_and_lines(self):
        for size in (-1, 61) + NO_NUMBERS:
            self.refused(("BadTable",), Table, 5, size, 1, [[1]])
            self.refused(("BadTable",), Table, 5, 1, size, [[1]])
        for lines in (None, 1, "ab", {}, [[1, 2]], [[1, 2], [3]], [[1, 2], [3, 4], [5, 6]], [[1, 2], 3],
                      [[1, 2], [3, None]], [[1, 2], [3, True]], [[1, 2], [3, "4"]], [[1, 2], "34"], [[1, 2], {3, 4}]):
            self.refused(("BadTable",), Table, 5, 2, 2, lines)

    def test_equality(self):
        one = Table(5, 2, 2, [[1, 2], [3, 4]])
        self.assertTrue(one == Table(5, 2, 2, ((6, -3), (8, 9))))
        self.assertFalse(one != Table(5, 2, 2, [[1, 2], [3, 4]]))
        for other in (Table(7, 2, 2, [[1, 2], [3, 4]]), Table(5, 2, 2, [[1, 2], [3, 3]]), Table(5, 1, 2, [[1, 2]])):
            self.assertFalse(one == other)
        self.assertFalse(Table(5, 0, 1, []) == Table(5, 0, 2, []))
        for thing in NO_OBJECTS + (((1, 2), (3, 4)), [[1, 2], [3, 4]]):
            self.assertFalse(one == thing)
            self.assertTrue(one != thing)


class ProductTest(ToolCase):
    def test_times_by_hand(self):
        one = Table(5, 2, 2, [[1, 2], [3, 4]])
        two = Table(5, 2, 3, [[1, 0, 1], [0, 1, 1]])
        self.assertEqual(times(one, two), Table(5, 2, 3, [[1, 2, 3], [3, 4, 7]]))
        self.assertEqual(times(one=one, two=one), Table(5, 2, 2, [[7, 10], [15, 22]]))

    def test_times_with_no_lines_or_columns(self):
        self.assertEqual(times(Table(5, 0, 2, []), Table(5, 2, 3, [[1, 2, 3]] * 2)), Table(5, 0, 3, []))
        self.assertEqual(times(Table(5, 2, 0, [[], []]), Table(5, 0, 3, [])), Table(5, 2, 3, [[0] * 3] * 2))
        self.assertEqual(times(Table(5, 2, 3, [[1, 2, 3]] * 2), Table(5, 3, 0, [[]] * 3)), Table(5, 2, 0, [[], []]))

    def test_laws(self):
        for seed, prime in enumerate((2, 3, 7, 97)):
            a, b, c = some_table(prime, 2, 3, seed), some_table(prime, 3, 4, seed + 10), some_table(prime, 4, 1, seed)
            d = some_table(prime, 3, 4, seed + 20)
            self.assertEqual(times(times(a, b), c), times(a, times(b, c)))
            self.assertEqual(times(a, plus(b, d)), plus(times(a, b), times(a, d)))
            self.assertEqual(across(times(a, b)), times(across(b), across(a)))
            self.assertEqual(times(plain(prime, 2), a), a)
            self.assertEqual(times(a, plain(prime, 3)), a)
            self.assertEqual(plus(b, scaled(b, -1)), scaled(b, prime))
            square = times(b, across(b))
            self.assertEqual(trace(square), trace(times(across(b), b)))

    def test_new_and_unchanged(self):
        one, two = some_table(5, 3, 3, 1), some_table(5, 3, 3, 2)
        for call, args in ((times, (one, two)), (plus, (one, two)), (scaled, (one, 3)), (across, (one,))):
            self.assertIsInstance(self.unchanged(call, *args), Table)

    def test_sums_and_multiples(self):
        one = Table(5, 1, 2, [[1, 4]])
        self.assertEqual(plus(one, Table(5, 1, 2, [[4, 3]])), Table(5, 1, 2, [[0, 2]]))
        self.assertEqual(scaled(one, -3), Table(5, 1, 2, [[2, 3]]))
        self.assertEqual(scaled(one, 10 ** 20), Table(5, 1, 2, [[0, 0]]))
        self.assertEqual(across(one), Table(5, 2, 1, [[1], [4]]))
        self.assertEqual(across(Table(5, 0, 3, [])), Table(5, 3, 0, [[]] * 3))
        self.assertEqual(across(Table(5, 3, 0, [[]] * 3)), Table(5, 0, 3, []))

    def test_plain_and_trace(self):
        self.assertEqual(plain(7, 2), Table(7, 2, 2, [[1, 0], [0, 1]]))
        self.assertEqual(plain(7, 0), Table(7, 0, 0, []))
        self.assertEqual(plain(prime=2, size=60).lines[59], (0,) * 59 + (1,))
        self.assertEqual(trace(Table(5, 2, 2, [[3, 1], [1, 4]])), 2)
        self.assertEqual(trace(plain(5, 0)), 0)
        self.assertEqual(trace(plain(7, 60)), 60 % 7)

    def test_wrong_plain(self):
        for prime in NO_PRIMES + NO_NUMBERS:
            self.refused(("BadPrime",), plain, prime, None)
        for size in (-1, 61) + NO_NUMBERS:
            self.refused(("BadNumber", "size"), plain, 5, size)

    def test_wrong_tables(self):
        one = plain(5, 2)
        for thing in NO_OBJECTS:
            for call in (times, plus):
                self.refused(("BadTable",), call, thing, one)
                self.refused(("BadTable",), call, one, thing)
            self.refused(("BadTable",), scaled, thing, None)
            self.refused(("BadTable",), across, thing)
            self.refused(("BadTable",), trace, thing)
        for call in (times, plus):
            self.refused(("BadTable",), call, one, plain(7, 2))
            self.refused(("BadTable",), call, one, plain(5, 3))
        self.refused(("BadTable",), times, some_table(5, 2, 3, 0), some_table(5, 2, 3, 0))
        self.refused(("BadTable",), plus, some_table(5, 2, 3, 0), some_table(5, 3, 2, 0))
        for number in NO_NUMBERS:
            self.refused(("BadNumber", "number"), scaled, one, number)
        for tall, wide in ((0, 1), (1, 0), (2, 3)):
            self.refused(("BadTable",), trace, some_table(5, tall, wide, 0))


if __name__ == "__main__":
    unittest.main()
