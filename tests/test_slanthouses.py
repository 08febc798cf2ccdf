"""Points [96] and [97], unswayed/slanthouses.py and unswayed/slantlots.py."""

import itertools
import unittest
from math import comb

from tests.test_slants import nothing, scaled_by, slow_slant_led, some_slant
from tests.tools import (
    NO_NUMBERS, NO_OBJECTS, ToolCase, house, letters, many_houses, mild_houses, signed, slow_rank, small_houses, trivial)
from unswayed.alone import alone_lot
from unswayed.degrees import unswayed_of
from unswayed.houses import is_mild
from unswayed.packs import level_rows
from unswayed.polys import Poly, constant, poly_power, poly_product, poly_scaled, poly_sum
from unswayed.putting import put_in
from unswayed.rowsfar import row_of
from unswayed.slanthouses import (
    is_unswayed_slant, raised, slant_far, slant_mean, slant_row, slants_of)
from unswayed.slantlots import lot_slants, told_slant
from unswayed.slants import (
    Slant, drop_slant, picks_of, poly_slant, slant_product, slant_scaled, slant_sum, slope_slant)

H = house(5, [[4, 0], [0, 4]])
SIGNED = house(5, [[0, 1], [1, 0]], [[4, 0], [0, 1]])
SHEAR = small_houses()["shear 3 2"]
X, Y = letters(5, 2)
ONE = constant(5, 2, 1)


def row_of_numbers(slant, degree):
    rows = level_rows(slant.wide, degree)
    return [part.terms.get(row, 0) for part in slant.parts for row in rows]


def slow_slant_count(one, grade, degree):
    """How many independent level unswayed Slants there are, as the rank of all led ones less themselves tells."""
    none = constant(one.prime, one.wide, 0)
    picks = picks_of(one.wide, grade)
    gaps = []
    for at in range(len(picks)):
        for row in level_rows(one.wide, degree):
            parts = [none] * len(picks)
            parts[at] = Poly(one.prime, one.wide, {row: 1})
            slant = Slant(one.prime, one.wide, grade, parts)
            line = []
            for each in one.tables:
                line += row_of_numbers(slant_sum(slow_slant_led(slant, each), scaled_by(slant, -1)), degree)
            gaps.append(line)
    return len(gaps) - slow_rank(gaps, one.prime)


def most_degree(one):
    return 5 if one.wide < 3 else 4


class UnswayedSlantTest(ToolCase):
    def test_tidy_lists(self):
        for name, one in many_houses().items():
            for grade in range(one.wide + 1):
                for degree in range(most_degree(one)):
                    found = self.unchanged(slants_of, one, grade, degree)
                    self.assertTrue(all(each.grade == grade and is_unswayed_slant(one, each) for each in found), name)
                    for each in found[:2]:
                        self.assertTrue(all(slow_slant_led(each, t) == each for t in one.few))
                    lines = [row_of_numbers(each, degree) for each in found]
                    least = [[at for at, number in enumerate(line) if number][0] for line in lines]
                    self.assertEqual(least, sorted(set(least)))
                    for k, at in enumerate(least):
                        self.assertEqual([line[at] for line in lines], [int(j == k) for j in range(len(lines))])
                    if grade == 0:
                        self.assertEqual(found, [poly_slant(poly) for poly in unswayed_of(one, degree)])

    def test_counts_a_second_way(self):
        for name, one in small_houses().items():
            if one.size <= 8:
                for grade in range(one.wide + 1):
                    for degree in range(3):
                        self.assertEqual(
                            len(slants_of(one, grade, degree)), slow_slant_count(one, grade, degree), (name, grade, degree))

    def test_slopes_drops_and_products(self):
        for name, one in many_houses().items():
            found = [each for grade in range(one.wide + 1) for degree in (1, 2, 3) for each in slants_of(one, grade, degree)[:1]]
            for each in found:
                if each.grade < one.wide:
                    self.assertIs(is_unswayed_slant(one, slope_slant(each)), True, name)
                if each.grade > 0:
                    self.assertIs(is_unswayed_slant(one, drop_slant(each)), True, name)
            for a, b in itertools.product(found[:4], found[-4:]):
                if a.grade + b.grade <= one.wide:
                    self.assertIs(is_unswayed_slant(one, slant_product(a, b)), True, name)

    def test_is_unswayed(self):
        for name, one in many_houses().items():
            for grade in range(one.wide + 1):
                slant = some_slant(one.prime, one.wide, grade, name, 2)
                found = self.unchanged(is_unswayed_slant, one, slant)
                self.assertEqual(found, all(slow_slant_led(slant, t) == slant for t in one.few), name)
                self.assertIs(is_unswayed_slant(one, nothing(one.prime, one.wide, grade)), True)

    def test_300_rows_and_more(self):
        self.assertEqual(len(slants_of(trivial(5, 3), 0, 23)), 300)
        self.assertEqual(len(slants_of(trivial(5, 3), 3, 23)), 300)
        self.assertEqual(len(slants_of(trivial(5, 3), 1, 12)), 273)
        self.assertEqual(len(slants_of(trivial(5, 2), 1, 120)), 242)
        self.assertEqual(len(slants_of(trivial(5, 1), 1, 120)), 1)
        for grade, degree in ((0, 24), (3, 24), (1, 13), (2, 13), (2, 120)):
            self.refused(("TooMany", 300), slants_of, trivial(5, 3), grade, degree)
        for grade in (-1, 3) + NO_NUMBERS:
            self.refused(("BadNumber", "grade"), slants_of, H, grade, None)
            self.refused(("BadNumber", "grade"), slant_row, H, grade)
            self.refused(("BadNumber", "grade"), slant_far, H, grade, None)
        for degree in (-1, 121) + NO_NUMBERS:
            self.refused(("BadNumber", "degree"), slants_of, H, 1, degree)
        for degree in (-1, -10 ** 30) + NO_NUMBERS:
            self.refused(("BadNumber", "degree"), slant_far, H, 1, degree)
        for thing in NO_OBJECTS:
            self.refused(("BadHouse", None), slants_of, thing, None, None)
            self.refused(("BadHouse", None), slant_row, thing, None)
            self.refused(("BadHouse", None), slant_far, thing, None, None)
        self.refused(("NoMean",), slant_row, SHEAR, None)
        self.refused(("NoMean",), slant_far, SHEAR, None, None)

    def test_by_hand(self):
        none = constant(5, 2, 0)
        self.assertEqual(slants_of(house=H, grade=1, degree=1), [
            Slant(5, 2, 1, [Y, none]), Slant(5, 2, 1, [X, none]), Slant(5, 2, 1, [none, Y]), Slant(5, 2, 1, [none, X])])
        self.assertEqual(slants_of(H, 2, 0), [Slant(5, 2, 2, [ONE])])
        self.assertEqual(slant_row(house=H, grade=1), (2, (0, 4)))
        self.assertEqual(slant_far(house=H, grade=1, degree=10 ** 30 + 1), 2 * (10 ** 30 + 2))
        self.assertEqual(slant_far(H, 1, 10 ** 30), 0)
        self.assertEqual(slants_of(H, 1, 0), [])


class RowTest(ToolCase):
    def test_rows_tell_the_counts(self):
        for name, one in mild_houses().items():
            for grade in range(one.wide + 1):
                period, tops = self.unchanged(slant_row, one, grade)
                self.assertEqual(period, row_of(one)[0])
                self.assertTrue(tops and tops[-1])
                for degree in range(9 if one.wide < 3 else 6):
                    told = sum(
                        number * comb((degree - at) // period + one.wide - 1, one.wide - 1)
                        for at, number in enumerate(tops) if at <= degree and (degree - at) % period == 0)
                    self.assertEqual(told, len(slants_of(one, grade, degree)), (name, grade, degree))
                    self.assertEqual(slant_far(one, grade, degree), told)
                self.assertEqual(sum(tops), period ** one.wide // one.size * comb(one.wide, grade), name)
            self.assertEqual(slant_row(one, 0), row_of(one))

    def test_read_from_the_other_end(self):
        for name, one in mild_houses().items():
            last = one.wide * (row_of(one)[0] - 1)
            for grade in range(one.wide + 1):
                tops, other = slant_row(one, grade)[1], slant_row(one, one.wide - grade)[1]
                for at in range(last + 1):
                    there = other[last - at] if last - at < len(other) else 0
                    self.assertEqual(tops[at] if at < len(tops) else 0, there, name)

    def test_changing_sums(self):
        for name, one in mild_houses().items():
            rows = [slant_row(one, grade) for grade in range(one.wide + 1)]
            for degree in (1, 2, 3, 4, 7, 12, 47, 100, 10 ** 15):
                total = sum(
                    (-1) ** grade * slant_far(one, grade, degree - grade)
                    for grade in range(one.wide + 1) if degree >= grade) if one.size < 20 else 0
                self.assertEqual(total, 0, name)
            self.assertEqual(len(rows), one.wide + 1)


class MeanTest(ToolCase):
    def test_means(self):
        for name, one in mild_houses().items():
            for grade in range(one.wide + 1):
                slant = some_slant(one.prime, one.wide, grade, name, 2)
                found = slant_mean(one, slant) if one.size > 20 else self.unchanged(slant_mean, one, slant)
                self.assertIs(is_unswayed_slant(one, found), True, name)
                self.assertEqual(slant_mean(house=one, slant=found), found)
                if one.size <= 20:
                    total = nothing(one.prime, one.wide, grade)
                    for each in one.tables:
                        total = slant_sum(total, slow_slant_led(slant, each))
                    self.assertEqual(scaled_by(found, one.size), total, name)

    def test_errors(self):
        good = nothing(5, 2, 1)
        for call in (is_unswayed_slant, slant_mean, raised):
            for thing in NO_OBJECTS + (X,):
                self.refused(("BadHouse", None), call, thing, good)
                self.refused(("BadSlant",), call, H, thing)
                self.refused(("BadSlant",), call, SHEAR, thing)
            for slant in (nothing(3, 2, 1), nothing(5, 3, 1), nothing(5, 1, 1)):
                self.refused(("BadSlant",), call, H, slant)
        for call in (slant_mean, raised):
            self.refused(("NoMean",), call, SHEAR, good)
            for name, one in many_houses().items():
                if not is_mild(one):
                    self.refused(("NoMean",), call, one, nothing(one.prime, one.wide, one.wide))
        self.refused(("BadSlant",), raised, H, nothing(5, 2, 2))
        self.refused(("BadSlant",), raised, H, Slant(5, 2, 2, [X]))
        self.refused(("Swayed",), raised, H, Slant(5, 2, 1, [X, ONE]))
        self.refused(("Swayed",), raised, H, poly_slant(X))


class RaisedTest(ToolCase):
    def has_constant(self, slant):
        return slant.grade == 0 and (0,) * slant.wide in slant.parts[0].terms

    def check(self, one, slant, name):
        found = raised(one, slant)
        drops = slant.grade > 0 and any(part.terms for part in drop_slant(slant).parts)
        self.assertEqual(found is None, drops or self.has_constant(slant), name)
        if found is not None:
            self.assertEqual(found.grade, slant.grade + 1)
            self.assertEqual(drop_slant(found), slant, name)
            self.assertIs(is_unswayed_slant(one, found), True, name)
        return found

    def test_unswayed_slants(self):
        for name, one in mild_houses().items():
            for grade in range(one.wide):
                for degree in range(most_degree(one) + 1):
                    for slant in slants_of(one, grade, degree)[:2]:
                        self.check(one, slant, name)
                    for slant in slants_of(one, grade + 1, degree)[:2]:
                        found = self.check(one, drop_slant(slant), name)
                        self.assertIsNotNone(found, name)

    def test_sums_of_unlike_degrees(self):
        for name, one in mild_houses().items():
            for grade in range(one.wide):
                total = nothing(one.prime, one.wide, grade)
                for degree in range(4):
                    for slant in slants_of(one, grade + 1, degree)[:2]:
                        total = slant_sum(total, drop_slant(slant))
                self.assertIsNotNone(self.check(one, total, name))
                more = (slants_of(one, grade, 2) + slants_of(one, grade, 0))[:1]
                for slant in more:
                    self.check(one, slant_sum(total, slant), name)

    def test_degrees_that_the_prime_divides(self):
        # There the slope tells nothing, as its drop is 0.
        for one in (house(3, [[2]]), house(3, [[2, 0], [0, 2]]), house(3, [[0, 2], [1, 0]], [[1, 1], [1, 2]]), trivial(2, 3),
                    small_houses()["cycle 2 3"], trivial(3, 3)):
            for grade in range(one.wide):
                for degree in range(7):
                    if (degree + grade) % one.prime == 0:
                        for slant in slants_of(one, grade, degree)[:4]:
                            self.check(one, slant, one)

    def test_degree_120(self):
        for prime in (5, 7):
            one = house(prime, [[prime - 1, 0], [0, prime - 1]])
            x, y = letters(prime, 2)
            high = poly_slant(poly_sum(poly_power(x, 120), poly_product(poly_power(x, 3), poly_power(y, 117))))
            self.check_high(one, high)
            self.assertIsNone(raised(one, Slant(prime, 2, 1, [poly_power(x, 119), poly_power(y, 119)])))
            none = constant(prime, 2, 0)
            one = house(prime, [[1, 0], [0, prime - 1]])
            part = poly_product(poly_power(x, 118), y)
            slant = Slant(prime, 2, 1, [poly_product(part, y), poly_scaled(poly_product(part, x), prime - 1)])
            self.assertEqual(slant.parts[0].degree, 120)
            self.check_high(one, slant)
            self.assertIsNone(raised(one, Slant(prime, 2, 1, [poly_power(x, 120), none])))
        x, y, z = letters(5, 3)
        one = house(5, [[4, 0, 0], [0, 4, 0], [0, 0, 1]])
        self.check_high(one, poly_slant(poly_sum(poly_power(z, 120), poly_product(poly_power(x, 60), poly_power(y, 60)))))

    def check_high(self, one, slant):
        found = raised(one, slant)
        self.assertEqual(drop_slant(found), slant)
        self.assertIs(is_unswayed_slant(one, found), True)

    def test_by_hand(self):
        slant = Slant(5, 2, 1, [Y, poly_scaled(X, 4)])
        self.assertEqual(raised(house=H, slant=slant), Slant(5, 2, 2, [poly_scaled(ONE, 4)]))
        self.assertNotIn(slant, [slope_slant(each) for each in slants_of(H, 0, 2)])
        self.assertIsNone(raised(H, poly_slant(ONE)))
        self.assertIsNone(raised(H, poly_slant(poly_sum(ONE, poly_product(X, Y)))))
        self.assertEqual(raised(H, nothing(5, 2, 1)), nothing(5, 2, 2))
        self.assertEqual(raised(H, nothing(5, 2, 0)), nothing(5, 2, 1))


class LotSlantsTest(ToolCase):
    def lots(self):
        return [(name, one, alone_lot(one)) for name, one in mild_houses().items() if alone_lot(one) is not None]

    def test_products_of_slopes(self):
        for name, one, lot in self.lots():
            for grade in range(one.wide + 1):
                found = self.unchanged(lot_slants, one, lot, grade)
                self.assertIsInstance(found, list)
                picks = picks_of(one.wide, grade)
                self.assertEqual(len(found), len(picks))
                for pick, each in zip(picks, found):
                    total = poly_slant(constant(one.prime, one.wide, 1))
                    for spot in pick:
                        total = slant_product(total, slope_slant(poly_slant(lot[spot])))
                    self.assertEqual(each, total, name)
                    self.assertIs(is_unswayed_slant(one, each), True)

    def test_unswayed_slants_are_told(self):
        for name, one, lot in self.lots():
            for grade in range(one.wide + 1):
                items = lot_slants(one, lot, grade)
                for degree in range(most_degree(one)):
                    for slant in slants_of(one, grade, degree)[:2]:
                        told = self.unchanged(told_slant, one, lot, slant)
                        self.assertEqual(len(told), len(items))
                        self.assertEqual(self.summed(items, told, lot), slant, name)

    def summed(self, items, told, lot):
        total = scaled_by(items[0], 0)
        for item, part in zip(items, told):
            total = slant_sum(total, slant_scaled(item, put_in(part, lot)))
        return total

    def test_what_was_told_comes_back(self):
        for name, one, lot in self.lots():
            most = 23 if one.wide == 3 else 60
            for grade in range(one.wide + 1):
                items = lot_slants(one, lot, grade)
                parts = [
                    Poly(one.prime, one.wide, {(0,) * one.wide: at + 1, (1,) + (0,) * (one.wide - 1): 1}) for at in range(len(items))]
                total = self.summed(items, parts, lot)
                if max(part.degree for part in total.parts) <= most:
                    self.assertEqual(told_slant(one, lot, total), parts, name)
                self.assertEqual(told_slant(one, lot, nothing(one.prime, one.wide, grade)),
                                 [constant(one.prime, one.wide, 0)] * len(items))

    def test_counts(self):
        for name, one, lot in self.lots():
            degrees = [poly.degree for poly in lot]
            for grade in range(one.wide + 1):
                for degree in range(8):
                    many = 0
                    for pick in picks_of(one.wide, grade):
                        left = degree - sum(degrees[spot] - 1 for spot in pick)
                        for row in itertools.product(range(left + 1), repeat=one.wide) if left >= 0 else []:
                            many += sum(e * d for e, d in zip(row, degrees)) == left
                    self.assertEqual(slant_far(one, grade, degree), many, (name, grade, degree))

    def test_by_hand(self):
        lot = [poly_sum(poly_power(X, 2), poly_power(Y, 2)), poly_product(poly_power(X, 2), poly_power(Y, 2))]
        told = told_slant(house=SIGNED, lot=lot, slant=Slant(5, 2, 1, [X, Y]))
        self.assertEqual([part.terms for part in told], [{(0, 0): 3}, {}])
        cubes = Slant(5, 2, 1, [poly_power(X, 3), poly_power(Y, 3)])
        self.assertEqual([part.terms for part in told_slant(SIGNED, lot, cubes)], [{(1, 0): 3}, {(0, 0): 2}])
        self.assertEqual(lot_slants(house=SIGNED, lot=lot, grade=0), [poly_slant(ONE)])
        self.assertEqual(lot_slants(SIGNED, lot, 1)[0], Slant(5, 2, 1, [poly_scaled(X, 2), poly_scaled(Y, 2)]))
        fours = poly_slant(poly_sum(poly_power(X, 4), poly_power(Y, 4)))
        self.assertEqual(slope_slant(slant_scaled(fours, poly_scaled(ONE, 4))), cubes)

    def test_errors(self):
        lot = alone_lot(SIGNED)
        for thing in NO_OBJECTS:
            self.refused(("BadHouse", None), lot_slants, thing, None, None)
            self.refused(("BadHouse", None), told_slant, thing, None, None)
            self.refused(("BadSlant",), told_slant, SHEAR, None, thing)
            self.refused(("BadAlone",), lot_slants, SIGNED, thing, None)
            self.refused(("BadAlone",), told_slant, SIGNED, thing, nothing(3, 2, 1))
        self.refused(("NoMean",), lot_slants, SHEAR, None, None)
        self.refused(("NoMean",), told_slant, SHEAR, None, nothing(5, 3, 1))
        self.refused(("BadAlone",), lot_slants, H, [poly_power(X, 2), poly_power(Y, 2)], None)
        for grade in (-1, 3) + NO_NUMBERS:
            self.refused(("BadNumber", "grade"), lot_slants, SIGNED, lot, grade)
        for slant in (nothing(3, 2, 1), nothing(5, 3, 1)):
            self.refused(("BadSlant",), told_slant, SIGNED, lot, slant)
        for slant in (Slant(5, 2, 1, [X, ONE]), Slant(5, 2, 2, [ONE]), poly_slant(poly_power(X, 120))):
            self.refused(("Swayed",), told_slant, SIGNED, lot, slant)

    def test_degrees_above_60(self):
        one = trivial(5, 2)
        lot = [X, poly_sum(X, Y)]
        slant = Slant(5, 2, 1, [poly_power(X, 60), poly_power(Y, 60)])
        self.assertEqual(self.summed(lot_slants(one, lot, 1), told_slant(one, lot, slant), lot), slant)
        self.refused(("TooMany", 60), told_slant, one, lot, Slant(5, 2, 1, [ONE, poly_power(X, 61)]))
        self.refused(("TooMany", 60), told_slant, trivial(5, 1), letters(5, 1), poly_slant(poly_power(letters(5, 1)[0], 61)))
        x, y, z = letters(5, 3)
        one = house(5, [[4, 0, 0], [0, 1, 0], [0, 0, 1]])
        lot = [y, z, poly_product(x, x)]
        none = constant(5, 3, 0)
        slant = Slant(5, 3, 1, [poly_power(x, 23), poly_product(y, poly_power(z, 22)), none])
        self.assertEqual(self.summed(lot_slants(one, lot, 1), told_slant(one, lot, slant), lot), slant)
        self.refused(("TooMany", 60), told_slant, one, lot, Slant(5, 3, 1, [none, none, poly_power(z, 24)]))
        self.refused(("TooMany", 60), told_slant, one, lot, Slant(5, 3, 0, [poly_power(z, 120)]))
        self.refused(("Swayed",), told_slant, one, lot, Slant(5, 3, 0, [poly_power(x, 119)]))
        lot = alone_lot(signed(97))
        found = slants_of(signed(97), 2, 9)
        for slant in found[:2]:
            self.assertEqual(self.summed(lot_slants(signed(97), lot, 2), told_slant(signed(97), lot, slant), lot), slant)


if __name__ == "__main__":
    unittest.main()
