"""Point [54], unswayed/widefields.py."""

import itertools
import random
import unittest

from tests.tools import NO_NUMBERS, NO_OBJECTS, ToolCase, some_poly, some_table, table
from unswayed.polys import Poly, constant, letter, value_at
from unswayed.tables import Table, plain
from unswayed.widefields import (
    WideField, far_moved, far_power, far_product, far_sum, far_undone, far_value, frobenius)

NINE = WideField(3, 2)
FIELDS = ((2, 1), (97, 1), (2, 2), (2, 5), (3, 2), (3, 4), (5, 3), (7, 2), (97, 2), (13, 6), (2, 60))


def slow_times(one, other, prime):
    """The product of two polynomials in t, as lists of numbers from t ** 0 on."""
    whole = [0] * (len(one) + len(other) - 1)
    for i, x in enumerate(one):
        for j, y in enumerate(other):
            whole[i + j] = (whole[i + j] + x * y) % prime
    return whole


def slow_products(prime, degree):
    """The moduli of degree that are products of two polynomials of lesser degrees, as a set of tuples."""
    found = set()
    for low in range(1, degree // 2 + 1):
        ones = [list(numbers) + [1] for numbers in itertools.product(range(prime), repeat=low)]
        others = [list(numbers) + [1] for numbers in itertools.product(range(prime), repeat=degree - low)]
        for one in ones:
            for other in others:
                found.add(tuple(slow_times(one, other, prime)[:degree]))
    return found


def slow_far_product(field, one, other):
    whole = slow_times(list(one), list(other), field.prime)
    while len(whole) > field.degree:
        top = whole.pop()
        for k, number in enumerate(field.modulus):
            at = len(whole) - field.degree + k
            whole[at] = (whole[at] - top * number) % field.prime
    return tuple(whole)


def far_numbers(field, seed, many=6):
    chance = random.Random(seed)
    return [tuple(chance.randrange(field.prime) for _ in range(field.degree)) for _ in range(many)]


def slow_power(field, one, times):
    total = far_one(field)
    for bit in bin(times)[2:]:
        total = slow_far_product(field, total, total)
        if bit == "1":
            total = slow_far_product(field, total, one)
    return total


def far_one(field, number=1):
    return (number,) + (0,) * (field.degree - 1)


class FieldTest(ToolCase):
    def test_least_moduli(self):
        for prime, degrees in ((2, range(1, 9)), (3, range(1, 6)), (5, range(1, 5)), (7, (2, 3)), (13, (2, 3)),
                               (97, (1, 2))):
            for degree in degrees:
                products = slow_products(prime, degree)
                least = next(one for one in itertools.product(range(prime), repeat=degree) if one not in products)
                field = WideField(prime, degree)
                self.assertEqual(field.modulus, least, (prime, degree))
                self.assertEqual((field.prime, field.degree), (prime, degree))

    def test_known_moduli(self):
        self.assertEqual(WideField(prime=3, degree=2).modulus, (1, 0))
        self.assertEqual(WideField(5, 1).modulus, (0,))
        self.assertEqual(WideField(2, 4).modulus, (1, 0, 0, 1))
        self.assertEqual(WideField(2, 8).modulus, (1, 0, 0, 0, 1, 1, 0, 1))
        self.assertIsInstance(NINE.modulus, tuple)

    def test_great_degrees(self):
        for prime, degree in ((2, 60), (3, 59), (97, 60), (5, 48)):
            field = WideField(prime, degree)
            self.assertEqual(len(field.modulus), degree)
            t = (0, 1) + (0,) * (degree - 2)
            point = (t,)
            seen = [point]
            for _ in range(degree):
                seen.append(frobenius(field, seen[-1]))
            self.assertEqual(seen[-1], point)
            self.assertEqual(len(set(seen)), degree)

    def test_equality(self):
        self.assertTrue(NINE == WideField(3, 2))
        self.assertFalse(NINE != WideField(3, 2))
        self.assertFalse(NINE == WideField(3, 3))
        self.assertFalse(NINE == WideField(5, 2))
        for thing in NO_OBJECTS + ((1, 0), (3, 2)):
            self.assertFalse(NINE == thing)

    def test_wrong(self):
        for prime in (0, 1, 4, 98) + NO_NUMBERS:
            self.refused(("BadPrime",), WideField, prime, None)
        for degree in (0, 61, -1) + NO_NUMBERS:
            self.refused(("BadNumber", "degree"), WideField, 3, degree)


class FarNumberTest(ToolCase):
    def test_by_hand(self):
        t = (0, 1)
        self.assertEqual(far_product(NINE, t, t), (2, 0))
        self.assertEqual(far_sum(field=NINE, one=(1, 2), other=(2, 2)), (0, 1))
        self.assertEqual(far_product(field=NINE, one=(1, 1), other=(1, 2)), (2, 0))
        self.assertEqual(far_power(field=NINE, one=(1, 1), times=8), (1, 0))
        self.assertEqual(far_power(NINE, (0, 0), 0), (1, 0))
        self.assertEqual(far_power(NINE, (0, 0), 10 ** 40), (0, 0))
        self.assertEqual(far_undone(field=NINE, one=t), (0, 2))
        self.assertIsNone(far_undone(NINE, (0, 0)))
        self.assertEqual(far_product(WideField(5, 1), (3,), (4,)), (2,))

    def test_second_way(self):
        for prime, degree in FIELDS:
            field = WideField(prime, degree)
            numbers = far_numbers(field, degree)
            for one in numbers[:3]:
                for other in numbers:
                    self.assertEqual(far_product(field, one, other), slow_far_product(field, one, other))
                    self.assertEqual(
                        self.unchanged(far_sum, field, one, other),
                        tuple((x + y) % prime for x, y in zip(one, other)))
                power = far_one(field)
                for times in range(7):
                    self.assertEqual(far_power(field, one, times), power)
                    power = slow_far_product(field, power, one)
                for times in (prime ** degree % 10 ** 40, 10 ** 40, 10 ** 40 - 1):
                    self.assertEqual(far_power(field, one, times), slow_power(field, one, times))

    def test_undone(self):
        for prime, degree in FIELDS + ((97, 48),):
            field = WideField(prime, degree)
            for one in far_numbers(field, 3, 3) + [far_one(field, prime - 1)]:
                if any(one):
                    self.assertEqual(far_product(field, one, self.unchanged(far_undone, field, one)), far_one(field))
            self.assertIsNone(far_undone(field, far_one(field, 0)))

    def test_each_number_of_a_small_field(self):
        for prime, degree in ((2, 4), (3, 3), (5, 2)):
            field = WideField(prime, degree)
            for one in itertools.product(range(prime), repeat=degree):
                self.assertEqual(far_power(field, one, prime ** degree), one)
                if any(one):
                    self.assertEqual(far_power(field, one, prime ** degree - 1), far_one(field))
                    self.assertEqual(far_product(field, far_undone(field, one), one), far_one(field))

    def test_wrong(self):
        bad = (None, 1, "ab", (1,), (1, 2, 0), [1, 2], (1, 3), (-1, 0), (1, True), (1, None), (1, 1.0), {1: 1, 2: 2})
        for thing in NO_OBJECTS + ((3, 2), (1, 0)):
            for call in (far_sum, far_product, far_power):
                self.refused(("BadNumber", "field"), call, thing, None, None)
            self.refused(("BadNumber", "field"), far_undone, thing, None)
            for call in (far_value, far_moved):
                self.refused(("BadNumber", "field"), call, thing, None, None)
            self.refused(("BadNumber", "field"), frobenius, thing, None)
        for thing in bad:
            for call in (far_sum, far_product):
                self.refused(("BadNumber", "one"), call, NINE, thing, None)
                self.refused(("BadNumber", "other"), call, NINE, (1, 2), thing)
            self.refused(("BadNumber", "one"), far_power, NINE, thing, None)
            self.refused(("BadNumber", "one"), far_undone, NINE, thing)
        for times in (-1, 10 ** 40 + 1) + NO_NUMBERS:
            self.refused(("BadNumber", "times"), far_power, NINE, (1, 2), times)


class FarPointTest(ToolCase):
    def test_values(self):
        for prime, degree in ((2, 3), (3, 2), (5, 4), (97, 2)):
            field = WideField(prime, degree)
            for wide in (1, 2, 4):
                poly = some_poly(prime, wide, 9, degree)
                for seed in range(3):
                    point = far_numbers(field, seed, wide)
                    total = far_one(field, 0)
                    for row, number in poly.terms.items():
                        part = far_one(field, number)
                        for one, exponent in zip(point, row):
                            part = slow_far_product(field, part, slow_power(field, one, exponent))
                        total = tuple((x + y) % prime for x, y in zip(total, part))
                    self.assertEqual(self.unchanged(far_value, field, poly, point), total)
        self.assertEqual(far_value(field=NINE, poly=Poly(3, 1, {(2,): 1, (0,): 1}), point=[(0, 1)]), (0, 0))
        self.assertEqual(far_value(NINE, Poly(3, 2, {}), [(0, 1), (1, 1)]), (0, 0))
        self.assertEqual(far_value(NINE, constant(3, 2, 2), ((0, 0), (0, 0))), (2, 0))
        self.assertEqual(far_value(NINE, Poly(3, 1, {(120,): 2}), [(1, 1)]), (2, 0))

    def test_values_at_points_of_the_field(self):
        field = WideField(7, 3)
        poly = some_poly(7, 2, 8, 2)
        for point in ([0, 0], [3, 5], [6, 1]):
            far = [far_one(field, number) for number in point]
            self.assertEqual(far_value(field, poly, far), far_one(field, value_at(poly, point)))

    def test_moved(self):
        for prime, degree, wide in ((2, 3, 2), (5, 2, 3), (97, 1, 1), (3, 4, 5)):
            field = WideField(prime, degree)
            one, point = some_table(prime, wide, wide, 3), far_numbers(field, 5, wide)
            found = self.unchanged(far_moved, field, one, point)
            self.assertIsInstance(found, tuple)
            for line, number in zip(one.lines, found):
                total = far_one(field, 0)
                for factor, each in zip(line, point):
                    total = tuple((x + factor * y) % prime for x, y in zip(total, each))
                self.assertEqual(number, total)
        self.assertEqual(far_moved(field=NINE, table=table(3, [1, 1], [0, 1]), point=[(1, 0), (0, 2)]), ((1, 2), (0, 2)))

    def test_frobenius(self):
        for prime, degree in FIELDS:
            field = WideField(prime, degree)
            point = far_numbers(field, 8, 2)
            found = self.unchanged(frobenius, field, point)
            self.assertEqual(found, tuple(slow_power(field, one, prime) for one in point))
            one = some_table(prime, 2, 2, degree)
            self.assertEqual(frobenius(field, far_moved(field, one, point)), far_moved(field, one, found))
            poly = some_poly(prime, 2, 6, degree)
            self.assertEqual(
                far_value(field, poly, found), far_power(field, far_value(field, poly, point), prime))
            for _ in range(degree - 1):
                found = frobenius(field, found)
            self.assertEqual(found, tuple(point))
            near = [far_one(field, number % prime) for number in (0, 1, 2, 96)]
            self.assertEqual(frobenius(field=field, point=near), tuple(near))

    def test_wrong(self):
        x = letter(3, 2, 0)
        good = [(0, 1), (1, 1)]
        for thing in NO_OBJECTS:
            self.refused(("BadPoly",), far_value, NINE, thing, None)
            self.refused(("BadTable",), far_moved, NINE, thing, None)
        self.refused(("BadPoly",), far_value, NINE, letter(5, 2, 0), None)
        for thing in (plain(5, 2), Table(3, 1, 2, [[1, 2]])):
            self.refused(("BadTable",), far_moved, NINE, thing, None)
        points = (None, 1, "ab", [], (), [(0, 1)], good + good[:1], [(0, 1), [1, 1]], [(0, 1), (1, 3)], [(0, 1), 1],
                  [(0, 1), (1,)], [(0, 1), None], [(0, 1), (True, 1)], {(0, 1): 1, (1, 1): 2})
        for point in points:
            self.refused(("BadPoint",), far_value, NINE, x, point)
            self.refused(("BadPoint",), far_moved, NINE, plain(3, 2), point)
            if point not in ([(0, 1)], good + good[:1]):
                self.refused(("BadPoint",), frobenius, NINE, point)
        self.refused(("BadPoint",), far_moved, NINE, plain(3, 0), [])


if __name__ == "__main__":
    unittest.main()
