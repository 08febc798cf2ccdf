"""Point [95], unswayed/slants.py."""

import itertools
import unittest

from tests.tools import (
    NO_NUMBERS, NO_OBJECTS, ToolCase, drawn_table, letters, level_poly, slow_led, slow_product, slow_sum, some_poly,
    some_table, table)
from unswayed.polys import constant, poly_power, poly_product, poly_scaled, poly_sum
from unswayed.putting import slope
from unswayed.slants import (
    Slant, drop_slant, picks_of, poly_slant, slant_led, slant_product, slant_scaled, slant_sum, slope_slant)
from unswayed.tables import Table, plain, times

PLACES = [(prime, wide, grade) for prime in (2, 3, 5, 97) for wide in (1, 2, 3) for grade in range(wide + 1)]


def some_slant(prime, wide, grade, seed, degree=3):
    many = len(picks_of(wide, grade))
    return Slant(prime, wide, grade, [some_poly(prime, wide, degree, f"{seed} {at}", 3) for at in range(many)])


def level_slant(prime, wide, grade, degree, seed):
    many = len(picks_of(wide, grade))
    return Slant(prime, wide, grade, [level_poly(prime, wide, degree, f"{seed} {at}") for at in range(many)])


def nothing(prime, wide, grade):
    return Slant(prime, wide, grade, [constant(prime, wide, 0)] * len(picks_of(wide, grade)))


def signs_in_sequence(signs):
    """The sign and the sorted signs, by exchanges of neighbours; 0 where a sign stands twice."""
    signs, sign = list(signs), 1
    if len(set(signs)) < len(signs):
        return 0, None
    for _ in signs:
        for at in range(len(signs) - 1):
            if signs[at] > signs[at + 1]:
                signs[at], signs[at + 1] = signs[at + 1], signs[at]
                sign = -sign
    return sign, tuple(signs)


def slow_slant(prime, wide, grade, pairs):
    """The Slant of pairs of signs in any sequence and Polys."""
    parts = {pick: constant(prime, wide, 0) for pick in itertools.combinations(range(wide), grade)}
    for signs, poly in pairs:
        sign, pick = signs_in_sequence(signs)
        if sign:
            parts[pick] = slow_sum(parts[pick], poly_scaled(poly, sign))
    return Slant(prime, wide, grade, list(parts.values()))


def pairs_of(slant):
    return list(zip(itertools.combinations(range(slant.wide), slant.grade), slant.parts))


def slow_slant_led(slant, one):
    pairs = []
    for pick, part in pairs_of(slant):
        image = slow_led(part, one)
        for signs in itertools.product(range(slant.wide), repeat=slant.grade):
            number = 1
            for at, sign in zip(pick, signs):
                number *= one.lines[at][sign]
            pairs.append((signs, poly_scaled(image, number)))
    return slow_slant(slant.prime, slant.wide, slant.grade, pairs)


def slow_slant_product(one, other):
    pairs = [
        (pick + more, slow_product(part, factor))
        for pick, part in pairs_of(one) for more, factor in pairs_of(other)]
    return slow_slant(one.prime, one.wide, one.grade + other.grade, pairs)


def scaled_by(slant, number):
    return slant_scaled(slant, constant(slant.prime, slant.wide, number))


class PicksTest(ToolCase):
    def test_picks(self):
        for wide in (1, 2, 3):
            for grade in range(wide + 1):
                found = self.unchanged(picks_of, wide, grade)
                self.assertEqual(found, list(itertools.combinations(range(wide), grade)))
                self.assertEqual(found, sorted(found))
        self.assertEqual(picks_of(wide=3, grade=2), [(0, 1), (0, 2), (1, 2)])
        self.assertEqual(picks_of(3, 0), [()])
        for wide in (0, 4, -1) + NO_NUMBERS:
            self.refused(("BadNumber", "wide"), picks_of, wide, None)
        for grade in (-1, 3) + NO_NUMBERS:
            self.refused(("BadNumber", "grade"), picks_of, 2, grade)


class SlantTest(ToolCase):
    def test_attributes(self):
        x, y = letters(5, 2)
        one = Slant(prime=5, wide=2, grade=1, parts=[x, y])
        self.assertEqual((one.prime, one.wide, one.grade, one.parts), (5, 2, 1, (x, y)))
        self.assertIsInstance(one.parts, tuple)
        self.assertEqual(one, Slant(5, 2, 1, (x, y)))
        parts = [x, y]
        kept = Slant(5, 2, 1, parts)
        parts[0] = y
        self.assertEqual(kept, one)
        for other in (Slant(5, 2, 1, [y, x]), Slant(5, 2, 0, [x]), Slant(5, 2, 2, [x]), (5, 2, 1, (x, y)), None, x, [x, y]):
            self.assertNotEqual(one, other)
        self.assertNotEqual(nothing(5, 2, 0), nothing(5, 2, 2))
        self.assertNotEqual(nothing(5, 2, 0), nothing(3, 2, 0))
        self.assertNotEqual(nothing(5, 2, 0), nothing(5, 3, 0))

    def test_wrong_inputs(self):
        x, y = letters(5, 2)
        for prime in (0, 1, 4, 101) + NO_NUMBERS:
            self.refused(("BadPrime",), Slant, prime, None, None, None)
        for wide in (0, 4) + NO_NUMBERS:
            self.refused(("BadNumber", "wide"), Slant, 5, wide, None, None)
        for grade in (-1, 3) + NO_NUMBERS:
            self.refused(("BadNumber", "grade"), Slant, 5, 2, grade, None)
        wrong = NO_OBJECTS + ([x], [x, y, x], [x, None], [x, letters(3, 2)[0]], [x, letters(5, 3)[0]], "xy", {0: x, 1: y}, x)
        for parts in wrong:
            self.refused(("BadSlant",), Slant, 5, 2, 1, parts)
        self.refused(("BadSlant",), Slant, 5, 2, 0, [])

    def test_no_slants(self):
        x = letters(5, 2)[0]
        good = Slant(5, 2, 1, [x, x])
        for thing in NO_OBJECTS + (x, plain(5, 2), [good]):
            for call in (lambda: slant_sum(thing, good), lambda: slant_sum(good, thing), lambda: slant_scaled(thing, None),
                         lambda: slant_product(thing, good), lambda: slant_product(good, thing),
                         lambda: slope_slant(thing), lambda: drop_slant(thing), lambda: slant_led(thing, None)):
                self.refused(("BadSlant",), call)


class SumTest(ToolCase):
    def test_sums_and_multiples(self):
        for prime, wide, grade in PLACES:
            one, other = some_slant(prime, wide, grade, 1), some_slant(prime, wide, grade, 2)
            found = self.unchanged(slant_sum, one, other)
            self.assertEqual(found.parts, tuple(slow_sum(a, b) for a, b in zip(one.parts, other.parts)))
            self.assertEqual((found.prime, found.wide, found.grade), (prime, wide, grade))
            poly = some_poly(prime, wide, 3, 3, 3)
            found = self.unchanged(slant_scaled, one, poly)
            self.assertEqual(found.parts, tuple(slow_product(a, poly) for a in one.parts))
            self.assertEqual(found.grade, grade)

    def test_errors(self):
        x, y = letters(5, 2)
        one = Slant(5, 2, 1, [x, y])
        for other in (nothing(3, 2, 1), nothing(5, 3, 1), nothing(5, 2, 0), nothing(5, 2, 2)):
            self.refused(("BadSlant",), slant_sum, one, other)
        for poly in NO_OBJECTS + (letters(3, 2)[0], letters(5, 3)[0], one):
            self.refused(("BadPoly",), slant_scaled, one, poly)
        high = poly_power(x, 119)
        self.assertEqual(slant_scaled(slant=one, poly=high).parts, (poly_power(x, 120), poly_product(high, y)))
        self.refused(("TooMany", 120), slant_scaled, one, poly_power(x, 120))
        self.refused(("TooMany", 120), slant_scaled, Slant(5, 2, 1, [constant(5, 2, 0), y]), poly_power(x, 120))
        # Parts and Polys without terms are never too high.
        self.assertEqual(slant_scaled(nothing(5, 2, 1), poly_power(x, 120)), nothing(5, 2, 1))
        far = Slant(5, 2, 1, [poly_power(x, 120), constant(5, 2, 2)])
        self.assertEqual(slant_scaled(far, constant(5, 2, 0)), nothing(5, 2, 1))
        self.assertEqual(slant_sum(one=one, other=one), scaled_by(one, 2))


class ProductTest(ToolCase):
    def test_second_way(self):
        for prime, wide, grade in PLACES:
            for more in range(wide - grade + 1):
                one, other = some_slant(prime, wide, grade, 1), some_slant(prime, wide, more, 2)
                found = self.unchanged(slant_product, one, other)
                self.assertEqual(found, slow_slant_product(one, other))
                self.assertEqual(found.grade, grade + more)
                sign = -1 if grade * more % 2 else 1
                self.assertEqual(slant_product(other, one), scaled_by(found, sign))
                for last in range(wide - grade - more + 1):
                    third = some_slant(prime, wide, last, 3)
                    self.assertEqual(
                        slant_product(found, third), slant_product(one, slant_product(other, third)))

    def test_errors(self):
        x, y = letters(5, 2)
        one = Slant(5, 2, 1, [x, y])
        for other in (nothing(3, 2, 1), nothing(5, 3, 1), nothing(5, 2, 2)):
            self.refused(("BadSlant",), slant_product, one, other)
            self.refused(("BadSlant",), slant_product, other, one)
        none = constant(5, 2, 0)
        high = poly_power(x, 120)
        # Only parts of picks without a common number are multiplied.
        self.assertEqual(slant_product(Slant(5, 2, 1, [high, none]), Slant(5, 2, 1, [high, none])), nothing(5, 2, 2))
        self.refused(("TooMany", 120), slant_product, Slant(5, 2, 1, [high, none]), Slant(5, 2, 1, [none, y]))
        self.assertEqual(slant_product(Slant(5, 2, 1, [high, none]), Slant(5, 2, 1, [none, constant(5, 2, 2)])).parts,
                         (poly_scaled(high, 2),))
        both = Slant(5, 2, 1, [high, high])
        self.refused(("TooMany", 120), slant_product, both, one)
        self.refused(("TooMany", 120), slant_product, poly_slant(x), poly_slant(high))
        self.assertEqual(slant_product(one=poly_slant(none), other=poly_slant(high)), nothing(5, 2, 0))
        # Two products whose sum would be 0 are too high all the same.
        self.refused(("TooMany", 120), slant_product, Slant(5, 2, 1, [poly_power(x, 61)] * 2), Slant(5, 2, 1, [poly_power(x, 60)] * 2))
        self.assertEqual(slant_product(one, one), nothing(5, 2, 2))


class SlopeAndDropTest(ToolCase):
    def test_second_way(self):
        for prime, wide, grade in PLACES:
            one = some_slant(prime, wide, grade, 5, 5)
            if grade < wide:
                pairs = [((at,) + pick, slope(part, at)) for pick, part in pairs_of(one) for at in range(wide)]
                self.assertEqual(self.unchanged(slope_slant, one), slow_slant(prime, wide, grade + 1, pairs))
            if grade > 0:
                pairs = []
                for pick, part in pairs_of(one):
                    for at, spot in enumerate(pick):
                        less = pick[:at] + pick[at + 1:]
                        pairs.append((less, poly_scaled(slow_product(letters(prime, wide)[spot], part), (-1) ** at)))
                self.assertEqual(self.unchanged(drop_slant, one), slow_slant(prime, wide, grade - 1, pairs))

    def test_twice_is_nothing(self):
        for prime, wide, grade in PLACES:
            one = some_slant(prime, wide, grade, 6, 6)
            if grade + 2 <= wide:
                self.assertEqual(slope_slant(slope_slant(one)), nothing(prime, wide, grade + 2))
            if grade >= 2:
                self.assertEqual(drop_slant(drop_slant(one)), nothing(prime, wide, grade - 2))

    def test_products(self):
        for prime, wide, k in PLACES:
            for more in range(wide - k + 1):
                a, b = some_slant(prime, wide, k, 7), some_slant(prime, wide, more, 8)
                both = slant_product(a, b)
                if k + more < wide:
                    first = slant_product(slope_slant(a), b)
                    last = scaled_by(slant_product(a, slope_slant(b)), (-1) ** k)
                    self.assertEqual(slope_slant(both), slant_sum(first, last))
                if k + more > 0:
                    total = nothing(prime, wide, k + more - 1)
                    if k:
                        total = slant_sum(total, slant_product(drop_slant(a), b))
                    if more:
                        total = slant_sum(total, scaled_by(slant_product(a, drop_slant(b)), (-1) ** k))
                    self.assertEqual(drop_slant(both), total)

    def test_degree_and_grade(self):
        for prime, wide, grade in PLACES:
            for degree in range(5):
                one = level_slant(prime, wide, grade, degree, 9)
                total = nothing(prime, wide, grade)
                if grade:
                    total = slant_sum(total, slope_slant(drop_slant(one)))
                if grade < wide:
                    total = slant_sum(total, drop_slant(slope_slant(one)))
                self.assertEqual(total, scaled_by(one, degree + grade))

    def test_by_hand_and_errors(self):
        x, y = letters(5, 2)
        one = constant(5, 2, 1)
        self.assertEqual(drop_slant(slant=Slant(5, 2, 2, [poly_scaled(one, 4)])), Slant(5, 2, 1, [y, poly_scaled(x, 4)]))
        self.assertEqual(slope_slant(slant=poly_slant(poly_product(x, y))), Slant(5, 2, 1, [y, x]))
        self.assertEqual(slope_slant(Slant(5, 2, 1, [y, x])), nothing(5, 2, 2))
        self.assertEqual(slope_slant(Slant(5, 2, 1, [y, poly_scaled(x, 4)])), Slant(5, 2, 2, [poly_scaled(one, 3)]))
        self.refused(("BadSlant",), slope_slant, nothing(5, 2, 2))
        self.refused(("BadSlant",), drop_slant, nothing(5, 2, 0))
        self.refused(("BadSlant",), drop_slant, poly_slant(poly_power(x, 120)))
        high = poly_power(x, 120)
        self.refused(("TooMany", 120), drop_slant, Slant(5, 2, 1, [constant(5, 2, 0), high]))
        self.refused(("TooMany", 120), drop_slant, Slant(5, 2, 2, [high]))
        self.assertEqual(drop_slant(Slant(5, 2, 2, [poly_power(x, 119)])).parts[1], high)
        self.assertEqual(slope_slant(poly_slant(poly_power(x, 119))).parts, (poly_scaled(poly_power(x, 118), 4), constant(5, 2, 0)))
        self.assertEqual(slope_slant(poly_slant(high)), nothing(5, 2, 1))
        self.assertEqual(slope_slant(nothing(2, 1, 0)), nothing(2, 1, 1))

    def test_poly_slant(self):
        for wide in (1, 2, 3):
            poly = some_poly(7, wide, 4, wide)
            self.assertEqual(self.unchanged(poly_slant, poly), Slant(7, wide, 0, [poly]))
        self.assertEqual(poly_slant(poly=constant(7, 3, 0)), nothing(7, 3, 0))
        for poly in NO_OBJECTS + (letters(5, 4)[0], constant(5, 12, 0), nothing(5, 2, 0)):
            self.refused(("BadPoly",), poly_slant, poly)


class SlantLedTest(ToolCase):
    def test_second_way(self):
        for prime, wide, grade in PLACES:
            one = some_slant(prime, wide, grade, 10)
            for seed in range(3):
                t = some_table(prime, wide, wide, seed)
                found = self.unchanged(slant_led, one, t)
                self.assertEqual(found, slow_slant_led(one, t))
                self.assertEqual(found.grade, grade)

    def test_facts(self):
        for prime, wide, grade in PLACES:
            one = some_slant(prime, wide, grade, 11)
            a, b = drawn_table(prime, wide, 12), some_table(prime, wide, wide, 13)
            self.assertEqual(slant_led(slant_led(one, a), b), slant_led(one, times(a, b)))
            self.assertEqual(slant_led(one, plain(prime, wide)), one)
            for t in (a, b):
                if grade < wide:
                    self.assertEqual(slope_slant(slant_led(one, t)), slant_led(slope_slant(one), t))
                if grade > 0:
                    self.assertEqual(drop_slant(slant_led(one, t)), slant_led(drop_slant(one), t))
                for more in range(wide - grade + 1):
                    other = some_slant(prime, wide, more, 14)
                    self.assertEqual(
                        slant_led(slant_product(one, other), t), slant_product(slant_led(one, t), slant_led(other, t)))

    def test_by_hand_and_errors(self):
        x, y = letters(5, 2)
        exchange = table(5, [0, 1], [1, 0])
        one = constant(5, 2, 1)
        self.assertEqual(slant_led(slant=Slant(5, 2, 1, [x, poly_scaled(y, 2)]), table=exchange), Slant(5, 2, 1, [poly_scaled(x, 2), y]))
        self.assertEqual(slant_led(Slant(5, 2, 2, [one]), exchange), Slant(5, 2, 2, [poly_scaled(one, 4)]))
        self.assertEqual(slant_led(Slant(5, 2, 2, [one]), table(5, [1, 2], [3, 4])), Slant(5, 2, 2, [poly_scaled(one, -2)]))
        self.assertEqual(slant_led(Slant(5, 2, 1, [one, one]), table(5, [1, 2], [3, 4])).parts, (poly_scaled(one, 4), one))
        for t in NO_OBJECTS + (plain(3, 2), plain(5, 3), Table(5, 2, 1, [[1], [0]]), x):
            self.refused(("BadTable",), slant_led, nothing(5, 2, 1), t)
        self.assertEqual(slant_led(poly_slant(poly_sum(x, one)), plain(5, 2)), poly_slant(poly_sum(x, one)))


if __name__ == "__main__":
    unittest.main()
