"""Point [113], unswayed/powersums.py."""

import itertools
import unittest

from tests.test_makers import H, LOT, SHEAR, SHEAR_LOT, X, XX, XY, Y, YY, lots_of_mild
from tests.tools import (
    NO_NUMBERS, NO_OBJECTS, ToolCase, form_poly, house, is_slow_unswayed, letters, many_houses, mild_houses, signed, slow_led,
    slow_product, slow_sum, some_points, trivial)
from unswayed.degrees import unswayed_of
from unswayed.families import family_house
from unswayed.freelots import free_lot
from unswayed.houses import House, is_mild
from unswayed.makers import are_fewest, makers_of
from unswayed.means import mean
from unswayed.polys import Poly, constant, poly_power, poly_product, poly_scaled, poly_sum
from unswayed.powersums import as_power_sums, power_makers, power_sum, spread_of
from unswayed.tables import plain


def led_forms(one, form):
    """What all tables lead the Poly of a form to, each table once."""
    return [slow_led(form_poly(one.prime, form), each) for each in one.tables]


def slow_power_sum(one, form, times):
    total = constant(one.prime, one.wide, 0)
    for each in led_forms(one, form):
        part = constant(one.prime, one.wide, 1)
        for _ in range(times):
            part = slow_product(part, each)
        total = slow_sum(total, part)
    return total


def made_of(one, pairs, degree):
    total = constant(one.prime, one.wide, 0)
    for number, form in pairs:
        total = poly_sum(total, poly_scaled(power_sum(one, form, degree), number))
    return total


class PowerSumTest(ToolCase):
    def test_many_houses(self):
        for name, one in many_houses().items():
            if one.size <= 20:
                for form in some_points(one, name, 2):
                    for times in (0, 1, 2, 3, 5):
                        found = self.unchanged(power_sum, one, form, times)
                        self.assertEqual(found, slow_power_sum(one, form, times), (name, times))
                        self.assertTrue(is_slow_unswayed(one, found))

    def test_by_hand(self):
        self.assertEqual(power_sum(house=H, form=(1, 2), times=2).terms, {(2, 0): 2, (1, 1): 3, (0, 2): 3})
        self.assertEqual(power_sum(H, [6, -3], 2), power_sum(H, (1, 2), 2))
        self.assertEqual(power_sum(H, (1, 2), 0), constant(5, 2, 2))
        self.assertEqual(power_sum(H, (1, 2), 3), constant(5, 2, 0))
        self.assertEqual(power_sum(SHEAR, (0, 0), 0), constant(3, 2, 0))
        self.assertEqual(power_sum(H, (0, 0), 4), constant(5, 2, 0))

    def test_120_factors(self):
        one = house(7, [[0, 6], [1, 0]])
        total = constant(7, 2, 0)
        for each in led_forms(one, (2, 3)):
            total = poly_sum(total, poly_power(each, 120))
        self.assertEqual(power_sum(one, (2, 3), 120), total)
        large = signed(97)
        found = power_sum(large, (1, 2, 3), 120)
        self.assertEqual(found.degree, 120)
        # It is left as it is where two unknowns are exchanged, and where one changes its sign.
        self.assertTrue(all(found.terms.get((b, a, c)) == number for (a, b, c), number in found.terms.items()))
        self.assertTrue(all(a % 2 == b % 2 == c % 2 == 0 for a, b, c in found.terms))
        # As many tables as the keeper has lead a form to each of the others.
        self.assertEqual(power_sum(large, (1, 0, 0), 120), Poly(97, 3, {row: 16 for row in (
            (120, 0, 0), (0, 120, 0), (0, 0, 120))}))
        self.assertEqual(power_sum(signed(3), (1, 0, 0), 4), Poly(3, 3, {
            row: 16 for row in ((4, 0, 0), (0, 4, 0), (0, 0, 4))}))

    def test_errors_in_their_sequence(self):
        for thing in NO_OBJECTS:
            self.refused(("BadHouse", None), power_sum, thing, None, None)
            self.refused(("BadPoint",), power_sum, H, thing, None)
        for form in ([1], [1, 2, 3], [True, 0], [1.0, 0], "ab", {0: 1, 1: 0}, [None, 1]):
            self.refused(("BadPoint",), power_sum, H, form, None)
            self.refused(("BadPoint",), spread_of, H, form)
        for form in ([1, 2], [1, 2, 3, 4], [1, 2, True]):
            self.refused(("BadPoint",), spread_of, signed(5), form)
        for times in NO_NUMBERS + (-1, 121):
            self.refused(("BadNumber", "times"), power_sum, H, (1, 2), times)


class SpreadTest(ToolCase):
    def test_many_houses(self):
        for name, one in many_houses().items():
            if one.size <= 8:
                form = some_points(one, name + "s", 1)[0]
                found = self.unchanged(spread_of, one, form)
                self.assertEqual(len(found), one.size)
                for many in range(1, one.size + 1):
                    total = constant(one.prime, one.wide, 0)
                    for pick in itertools.combinations(led_forms(one, form), many):
                        part = constant(one.prime, one.wide, 1)
                        for each in pick:
                            part = slow_product(part, each)
                        total = slow_sum(total, part)
                    self.assertEqual(found[many - 1], total, (name, many))

    def test_power_sums_tell_it(self):
        """k times the kth is the sum of (-1) ** (i - 1) times the (k - i)th times the power sum of i times."""
        for name, one in many_houses().items():
            if one.size <= (48 if one.wide < 3 else 12):
                form = some_points(one, name + "n", 1)[0]
                spread = [constant(one.prime, one.wide, 1)] + spread_of(one, form)
                for k in range(1, min(one.size, 8) + 1):
                    total = constant(one.prime, one.wide, 0)
                    for i in range(1, k + 1):
                        part = poly_product(spread[k - i], power_sum(one, form, i))
                        total = poly_sum(total, poly_scaled(part, (-1) ** (i - 1)))
                    self.assertEqual(poly_scaled(spread[k], k), total, (name, k))

    def test_more_than_300_rows(self):
        large = family_house(("turns", 97, (2, 3, 4)))
        self.refused(("TooMany", 300), spread_of, large, (1, 0, 0))
        self.refused(("TooMany", 300), spread_of, signed(5), (0, 0, 0))
        edge = house(47, [[pow(5, 2, 47), 0, 0], [0, 1, 0], [0, 0, 1]])
        self.assertEqual(edge.size, 23)
        found = spread_of(house=edge, form=[1, 0, 0])
        self.assertEqual([at + 1 for at, poly in enumerate(found) if poly.terms], [23])
        self.assertEqual(found[-1].terms, {(23, 0, 0): 1})
        plane = family_house(("weights", 97, 48, (1, 47)))
        found = spread_of(plane, (1, 1))
        self.assertEqual((len(found), found[-1].degree), (48, 48))
        self.assertEqual(spread_of(plane, (1, 0))[-1].terms, {(48, 0): 96})
        for thing in NO_OBJECTS:
            self.refused(("BadHouse", None), spread_of, thing, None)
            self.refused(("BadPoint",), spread_of, H, thing)


class AsPowerSumsTest(ToolCase):
    def checked(self, one, poly):
        found = self.unchanged(as_power_sums, one, poly)
        self.assertIsInstance(found, list)
        self.assertTrue(all(isinstance(pair, tuple) and isinstance(pair[1], tuple) for pair in found))
        self.assertTrue(all(1 <= number < one.prime for number, _ in found))
        self.assertTrue(all(len(form) == one.wide and 0 <= min(form) <= max(form) < one.prime for _, form in found))
        self.assertEqual(len({form for _, form in found}), len(found))
        self.assertEqual(made_of(one, found, max(poly.degree, 0)), poly)

    def test_many_houses(self):
        for name, one in mild_houses().items():
            for degree in range(min(one.prime, 9 if one.wide < 3 else 6)):
                lot = unswayed_of(one, degree)
                for poly in lot[:2] + lot[-1:]:
                    self.checked(one, poly)
                if lot:
                    total = lot[0]
                    for at, poly in enumerate(lot[1:]):
                        total = poly_sum(total, poly_scaled(poly, at + 2))
                    self.checked(one, total)

    def test_degrees_just_below_the_prime(self):
        for prime in (2, 3, 5, 7, 11):
            for wide in (1, 2, 3):
                for poly in unswayed_of(trivial(prime, wide), prime - 1)[::7]:
                    self.checked(trivial(prime, wide), poly)
                for poly in (unswayed_of(trivial(prime, wide), prime)[0], poly_power(letters(prime, wide)[0], prime + 1)):
                    self.refused(("LowPrime",), as_power_sums, trivial(prime, wide), poly)
        self.checked(trivial(97, 2), mean(trivial(97, 2), poly_power(poly_sum(*letters(97, 2)), 96)))
        self.checked(house(23, [[1, 0, 0], [0, 1, 0], [0, 0, 22]]), Poly(23, 3, {(20, 0, 2): 3, (1, 17, 4): 7}))
        x = letters(29, 3)[0]
        self.checked(trivial(29, 3), poly_power(x, 23))
        self.refused(("TooMany", 300), as_power_sums, trivial(29, 3), poly_power(x, 24))
        self.refused(("LowPrime",), as_power_sums, trivial(29, 3), poly_power(x, 29))

    def test_no_terms_and_constants(self):
        for name, one in mild_houses().items():
            self.assertEqual(as_power_sums(house=one, poly=constant(one.prime, one.wide, 0)), [])
            self.checked(one, constant(one.prime, one.wide, one.prime - 1))

    def test_errors_in_their_sequence(self):
        for thing in NO_OBJECTS:
            self.refused(("BadHouse", None), as_power_sums, thing, X)
            self.refused(("BadPoly",), as_power_sums, SHEAR, thing)
            self.refused(("BadHouse", None), as_power_sums, plain(5, 2), X)
            self.refused(("BadHouse", None), as_power_sums, thing, None)
        self.refused(("NoMean",), as_power_sums, SHEAR, X)
        for poly in (letters(3, 2)[0], letters(5, 3)[0], poly_sum(XX, poly_power(XX, 60)), poly_sum(X, XX), poly_sum(XX, constant(5, 2, 1))):
            self.refused(("BadPoly",), as_power_sums, H, poly)
        for poly in (X, poly_power(X, 119)):
            self.refused(("Swayed",), as_power_sums, H, poly)
        for poly in (poly_power(XX, 3), poly_power(XX, 60)):
            self.refused(("LowPrime",), as_power_sums, H, poly)
        self.checked(H, poly_product(XX, YY))


class PowerMakersTest(ToolCase):
    def test_many_houses(self):
        for name, (one, lot) in lots_of_mild().items():
            if one.prime > one.size:
                found = self.unchanged(power_makers, one, lot)
                self.assertIsInstance(found, list)
                self.assertTrue(all(isinstance(pair, tuple) and isinstance(pair[0], tuple) for pair in found))
                self.assertTrue(all(0 <= min(form) <= max(form) < one.prime and len(form) == one.wide for form, _ in found))
                degrees = [times for _, times in found]
                self.assertEqual(degrees, [poly.degree for poly in makers_of(one, lot)], name)
                self.assertIs(are_fewest(one, lot, [power_sum(one, form, times) for form, times in found]), True, name)

    def test_by_hand(self):
        polys = [power_sum(H, form, times) for form, times in [((1, 0), 2), ((0, 1), 2), ((1, 1), 2)]]
        self.assertIs(are_fewest(H, LOT, polys), True)
        self.assertEqual([times for _, times in power_makers(house=H, lot=[XX, YY])], [2, 2, 2])

    def test_primes_at_the_size(self):
        for prime, size in ((2, 1), (3, 2), (5, 4), (7, 6)):
            one = house(prime, [[next(g for g in range(1, prime) if len({pow(g, k, prime) for k in range(prime)}) == size)]])
            self.assertEqual(power_makers(one, free_lot(one))[0][1], size)
        for one in (family_house(("round", 5, 3)), family_house(("twin", 3, 2)), signed(5), house(3, [[2, 0], [0, 1]], [[1, 0], [0, 2]])):
            if is_mild(one):
                self.refused(("LowPrime",), power_makers, one, free_lot(one))
                self.refused(("BadLot",), power_makers, one, None)
        self.assertEqual(House(2, 2, []).size, 1)

    def test_errors_in_their_sequence(self):
        for thing in NO_OBJECTS:
            self.refused(("BadHouse", None), power_makers, thing, None)
            self.refused(("BadLot",), power_makers, H, thing)
        self.refused(("NoMean",), power_makers, SHEAR, None)
        self.refused(("NoMean",), power_makers, SHEAR, SHEAR_LOT)
        x, y, z = letters(5, 3)
        self.refused(("TooMany", 300), power_makers, trivial(5, 3), [poly_power(x, 24), y, z])
        for lot in ([XX], [XX, XX], [XX, XY], [X, Y]):
            self.refused(("BadLot",), power_makers, H, lot)


if __name__ == "__main__":
    unittest.main()
