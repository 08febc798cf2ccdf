"""Point [99], unswayed/familylots.py."""

import itertools
import unittest

from tests.test_others import slow_told
from tests.tools import (
    NO_NUMBERS, NO_OBJECTS, ToolCase, all_rows, house, is_slow_unswayed, letters, slow_led, slow_order, slow_product, slow_put,
    slow_rank, slow_sum, some_poly, table)
from unswayed.alone import is_alone_lot
from unswayed.degrees import count_of, unswayed_of
from unswayed.families import family_house, family_size
from unswayed.familylots import family_count, family_lot, family_others, family_told
from unswayed.freelots import is_free_lot
from unswayed.houses import is_mild
from unswayed.leadings import is_unswayed
from unswayed.others import are_others
from unswayed.polys import Poly, constant, is_level, poly_power, poly_product, poly_sum
from unswayed.putting import slope
from unswayed.rowsfar import count_far

WORDS = (
    ("exchanges", 5, 1), ("exchanges", 2, 2), ("exchanges", 7, 2), ("exchanges", 2, 3), ("exchanges", 3, 3),
    ("exchanges", 97, 3), ("even", 2, 1), ("even", 3, 2), ("even", 2, 3), ("even", 3, 3), ("even", 5, 3),
    ("turns", 2, (1, 1, 1)), ("turns", 7, (3,)), ("turns", 7, (1, 2, 6)), ("turns", 97, (48,)), ("turns", 97, (3, 16)),
    ("turns", 13, (4, 4, 3)), ("weights", 13, 4, (1, 3)), ("weights", 13, 12, (0,)), ("weights", 5, 1, (0, 0, 0)),
    ("weights", 13, 12, (2, 3)), ("weights", 13, 12, (1, 5)), ("weights", 7, 6, (1, 5, 2)), ("weights", 97, 48, (1, 7)),
    ("weights", 97, 96, (2, 94)), ("weights", 31, 10, (5, 2)), ("weights", 13, 12, (3, 4, 6)), ("wreath", 5, 1, 4, 2),
    ("wreath", 97, 1, 96, 2), ("wreath", 5, 2, 4, 4), ("wreath", 3, 2, 2, 1), ("wreath", 2, 2, 1, 1), ("wreath", 5, 3, 2, 1),
    ("wreath", 3, 3, 2, 2), ("wreath", 3, 3, 2, 1), ("wreath", 97, 2, 24, 24), ("wreath", 7, 2, 3, 1), ("round", 2, 3),
    ("round", 7, 3), ("round", 7, 8), ("round", 97, 24), ("round", 5, 4), ("round", 5, 6), ("twin", 3, 2), ("twin", 5, 2),
    ("twin", 5, 3), ("twin", 97, 12), ("twin", 13, 7), ("twin", 7, 3))
MANY = (
    ("turns", 97, (48, 2)), ("turns", 7, (6, 3, 3)), ("weights", 97, 96, (1, 5)), ("wreath", 5, 3, 4, 4),
    ("wreath", 13, 2, 6, 1), ("round", 97, 32), ("round", 97, 49), ("twin", 97, 16), ("twin", 53, 13))
HIGH = ("weights", 97, 48, (1, 1, 17))
NO_WORDS = NO_OBJECTS + (
    ["exchanges", 5, 2], ("exchanges", 5, 4), ("exchanges", 5, True), ("turns", 7, [3]), ("turns", 7, (4,)), ("round", 7, 2),
    ("twin", 2, 3), ("weights", 13, 4, (4,)), ("wreath", 5, 2, 4, 3), ("other", 5, 2), ("even", 6, 2))


def degrees_of(polys):
    return [poly.degree for poly in polys]


def one_row(prime, row):
    return Poly(prime, len(row), {tuple(row): 1})


def pick_sums(prime, wide, step):
    """Sums of products of unlike unknowns, each to a power, off the product of all 1 + T * unknown ** step."""
    sums = [constant(prime, wide, 1)]
    for letter in letters(prime, wide):
        power = poly_power(letter, step)
        sums = [poly_sum(a, slow_product(b, power)) for a, b in zip(sums + [constant(prime, wide, 0)],
                                                                    [constant(prime, wide, 0)] + sums)]
    return sums[1:]


def least_turn(prime, order):
    return next(a for a in range(prime) if slow_order(table(prime, [0, -1], [1, a])) == order)


def square_form(prime, turn):
    return Poly(prime, 2, {(2, 0): 1, (1, 1): turn, (0, 2): 1})


def slow_lot(word):
    """The lot that the document tells, by plain ways."""
    name, prime = word[0], word[1]
    if name in ("exchanges", "even"):
        return pick_sums(prime, word[2], 1) if name == "exchanges" or word[2] == 3 else letters(prime, word[2])
    if name == "turns":
        return [poly_power(letter, order) for letter, order in zip(letters(prime, len(word[2])), word[2])]
    if name == "weights":
        one = family_house(word)
        found = []
        for letter in letters(prime, len(word[3])):
            powers = [poly_power(letter, at) for at in range(1, word[2] + 1)]
            found.append(next(power for power in powers if is_unswayed(one, power)))
        return found
    if name == "wreath":
        return pick_sums(prime, word[2], word[3])[:-1] + [one_row(prime, [word[3] // word[4]] * word[2])]
    one = family_house(word)
    if name == "round":
        both = poly_sum(*letters(prime, 2))
        unlike = {tuple(slow_led(both, each).terms.items()) for each in one.tables}
        total = constant(prime, 2, 1)
        for terms in unlike:
            total = slow_product(total, Poly(prime, 2, dict(terms)))
        return [square_form(prime, least_turn(prime, word[2])), total]
    form = square_form(prime, least_turn(prime, 2 * word[2]))
    power = poly_power(form, word[2])
    multiples = [{row: number * k % prime for row, number in power.terms.items()} for k in range(1, prime)]
    first = next(poly for poly in unswayed_of(one, 2 * word[2]) if poly.terms not in multiples)
    return [slow_product(form, form), first]


def slow_others(word, lot):
    name, prime = word[0], word[1]
    ones = [constant(prime, lot[0].wide, 1)]
    if name == "even" and word[2] == 3:
        x, y, z = letters(prime, 3)
        parts = [slow_product(slow_product(a, a), b) for a, b in ((x, y), (y, z), (z, x))]
        return ones + [slow_sum(slow_sum(*parts[:2]), parts[2])]
    if name == "weights":
        one = family_house(word)
        rows = [row for row in itertools.product(*[range(poly.degree) for poly in lot])
                if all(pow(number_at(each, row), 1, prime) == 1 for each in one.few)]
        return [one_row(prime, row) for row in sorted(rows, key=lambda row: (sum(row), row))]
    if name == "twin":
        form = square_form(prime, least_turn(prime, 2 * word[2]))
        f = lot[1]
        cross = slow_product(slope(form, 0), slope(f, 1)), slow_product(slope(form, 1), slope(f, 0))
        return ones + [slow_product(form, slow_sum(cross[0], slow_product(cross[1], constant(prime, 2, -1))))]
    return ones


def number_at(each, row):
    """The number by which a diagonal table changes the Poly of a row."""
    total = 1
    for at, exponent in enumerate(row):
        total *= each.lines[at][at] ** exponent
    return total % each.prime


def slow_count(lot, others, degree):
    """How many pairs of an item and a row of exponents have this whole degree."""
    counts = [degrees_of(others).count(at) for at in range(degree + 1)]
    for poly in lot:
        for at in range(poly.degree, degree + 1):
            counts[at] += counts[at - poly.degree]
    return counts[degree]


class LotTest(ToolCase):
    def test_just_these_polys(self):
        for word in WORDS:
            lot = self.unchanged(family_lot, word)
            self.assertEqual(lot, slow_lot(word), word)
            several = self.unchanged(family_others, word)
            self.assertEqual(several, slow_others(word, lot), word)
            self.assertIsInstance(lot, list)
            self.assertIsInstance(several, list)

    def test_free_lots_with_others(self):
        for word in WORDS:
            one, lot, several = family_house(word), family_lot(word), family_others(word)
            self.assertIs(is_free_lot(one, lot), True, word)
            product = 1
            for poly in lot:
                product *= poly.degree
            self.assertEqual(len(several) * family_size(word), product, word)
            self.assertTrue(all(is_level(each) and is_unswayed(one, each) for each in several), word)
            if is_mild(one):
                self.assertIs(are_others(one, lot, several), True, word)
            self.assertEqual(is_alone_lot(one, lot), len(several) == 1)
            if word[0] in ("exchanges", "turns", "wreath", "round"):
                self.assertEqual([each.terms for each in several], [constant(one.prime, one.wide, 1).terms], word)

    def test_each_unswayed_poly_is_told_in_one_way(self):
        for word in WORDS:
            one, lot, several = family_house(word), family_lot(word), family_others(word)
            for degree in range(1, 5 if one.wide == 3 else 8):
                rows = all_rows(one.wide, degree)
                products = [
                    slow_product(slow_put(Poly(one.prime, one.wide, {row: 1}), lot), item)
                    for item in several for row in itertools.product(range(degree + 1), repeat=one.wide)
                    if sum(e * f.degree for e, f in zip(row, lot)) + item.degree == degree]
                lines = [[poly.terms.get(row, 0) for row in rows] for poly in products]
                self.assertEqual(len(products), count_of(one, degree), (word, degree))
                self.assertEqual(slow_rank(lines, one.prime), len(products), (word, degree))

    def test_by_hand(self):
        word = ("twin", 3, 2)
        one = house(3, [[0, 2], [1, 0]], [[1, 1], [1, 2]])
        self.assertEqual(family_house(word), one)
        x, y = letters(3, 2)
        q = poly_sum(poly_product(x, x), poly_product(y, y))
        self.assertEqual(family_lot(word=word)[0], poly_product(q, q))
        self.assertEqual(degrees_of(family_lot(word)), [4, 4])
        self.assertEqual(degrees_of(family_others(word=word)), [0, 6])
        x, y, z = letters(5, 3)
        self.assertEqual([poly.terms for poly in family_lot(("wreath", 5, 3, 2, 2))], [
            {(2, 0, 0): 1, (0, 2, 0): 1, (0, 0, 2): 1}, {(2, 2, 0): 1, (2, 0, 2): 1, (0, 2, 2): 1}, {(1, 1, 1): 1}])
        self.assertEqual([poly.terms for poly in family_others(("weights", 13, 4, (1, 3)))], [
            {(0, 0): 1}, {(1, 1): 1}, {(2, 2): 1}, {(3, 3): 1}])
        self.assertEqual([poly.terms for poly in family_others(("weights", 7, 3, (1, 1, 2)))], [
            {(0, 0, 0): 1}, {(0, 1, 1): 1}, {(1, 0, 1): 1}, {(1, 2, 0): 1}, {(2, 1, 0): 1}, {(0, 2, 2): 1}, {(1, 1, 2): 1},
            {(2, 0, 2): 1}, {(2, 2, 1): 1}])

    def test_errors(self):
        for call, more in ((family_lot, ()), (family_others, ()), (family_count, (None,)), (family_told, (letters(5, 1)[0],))):
            for thing in NO_WORDS:
                self.refused(("BadFamily",), call, thing, *more)
            for word in MANY:
                self.refused(("TooMany", 48), call, word, *more)

    def test_weights_whose_others_have_sums_above_120(self):
        one = family_house(HIGH)
        self.assertEqual((one.size, degrees_of(family_lot(HIGH))), (48, [48, 48, 48]))
        self.refused(("TooMany", 120), family_others, HIGH)
        sums = [sum(row) for row in itertools.product(range(48), repeat=3) if (row[0] + row[1] + 17 * row[2]) % 48 == 0]
        self.assertEqual((len(sums), max(sums)), (2304, 128))
        for degree in (0, 1, 47, 48, 96, 120, 128, 129, 500):
            pairs = [(total, left) for total in sums for left in [degree - total] if left >= 0 and left % 48 == 0]
            many = sum((left // 48 + 2) * (left // 48 + 1) // 2 for _, left in pairs)
            self.assertEqual(family_count(HIGH, degree), many)
        self.assertEqual(family_count(HIGH, 10 ** 50), count_far(one, 10 ** 50))
        x = letters(97, 3)[0]
        self.refused(("TooMany", 120), family_told, HIGH, constant(97, 3, 5))
        self.refused(("Swayed",), family_told, HIGH, x)
        self.refused(("BadPoly",), family_told, HIGH, letters(97, 2)[0])
        self.refused(("TooMany", 300), family_told, HIGH, poly_power(x, 48))
        # Just below: sums up to 120.
        edge = ("weights", 97, 48, (1, 1, 25))
        several = family_others(edge)
        self.assertEqual((len(several), several[-1].degree, several[0].degree), (2304, 120, 0))
        self.assertEqual(family_told(edge, constant(97, 3, 4)), [constant(97, 3, 4)] + [constant(97, 3, 0)] * 2303)
        self.assertEqual(several[1].degree, 24)
        self.refused(("TooMany", 300), family_told, edge, several[1])


class CountTest(ToolCase):
    def test_counts(self):
        for word in WORDS:
            one, lot, several = family_house(word), family_lot(word), family_others(word)
            for degree in range(13):
                self.assertEqual(family_count(word, degree), count_of(one, degree), (word, degree))
            for degree in (23, 24, 47, 96, 120, 301, 768):
                self.assertEqual(family_count(word, degree), slow_count(lot, several, degree), (word, degree))
            if is_mild(one):
                for degree in (10 ** 6, 10 ** 30, 10 ** 30 + 1, 48 * 10 ** 40, 10 ** 400):
                    self.assertEqual(family_count(word, degree), count_far(one, degree), (word, degree))

    def test_houses_that_are_not_mild(self):
        d = 10 ** 30
        self.assertEqual(family_count(word=("exchanges", 2, 2), degree=d), d // 2 + 1)
        self.assertEqual(family_count(("exchanges", 3, 3), d), (d * d + 6 * d + 12) // 12)
        self.assertEqual(family_count(("even", 2, 3), d), ((d * d + 6 * d + 12) // 12) + ((d - 3) ** 2 + 6 * (d - 3) + 9) // 12)
        self.assertEqual(family_count(("round", 2, 3), 6 * d + 1), d)

    def test_errors(self):
        for thing in NO_NUMBERS + (-1,):
            self.refused(("BadNumber", "degree"), family_count, ("exchanges", 5, 2), thing)
            self.refused(("BadNumber", "degree"), family_count, HIGH, thing)


class ToldTest(ToolCase):
    def test_what_is_told_comes_back(self):
        for word in WORDS:
            one, lot, several = family_house(word), family_lot(word), family_others(word)
            for degree in range(9 if one.wide < 3 else 7):
                for poly in unswayed_of(one, degree)[:3]:
                    told = self.unchanged(family_told, word, poly)
                    self.assertEqual(len(told), len(several))
                    self.assertTrue(all(part.wide == one.wide and part.prime == one.prime for part in told))
                    self.assertEqual(slow_told(told, lot, several), poly, (word, degree))

    def test_what_was_told_is_found(self):
        for word in WORDS:
            lot, several = family_lot(word), family_others(word)
            prime, wide = lot[0].prime, len(lot)
            few = several[:3] + several[-1:]
            parts = [some_poly(prime, wide, 1, at, 3) for at in range(len(few))]
            if max(degrees_of(lot)) + max(degrees_of(few)) <= (120 if wide < 3 else 23):
                total = slow_told(parts, lot, few)
                self.assertTrue(is_slow_unswayed(family_house(word), total) if total.degree < 14 else True)
                told = family_told(word=word, poly=total)
                self.assertEqual(slow_told(told, lot, several), total, word)
                if len(several) == 1:
                    self.assertEqual(told, [poly_sum(*parts)])

    def test_errors_in_their_sequence(self):
        word = ("turns", 5, (2, 2, 1))
        x, y, z = letters(5, 3)
        for thing in NO_OBJECTS:
            # What is no Poly at all comes ahead of the word.
            self.refused(("BadPoly",), family_told, None, thing)
            self.refused(("BadPoly",), family_told, MANY[0], thing)
        for poly in (letters(5, 2)[0], letters(3, 3)[0]):
            self.refused(("BadPoly",), family_told, word, poly)
        for poly in (x, poly_sum(poly_power(x, 2), y), poly_power(x, 119)):
            self.refused(("Swayed",), family_told, word, poly)
        self.refused(("TooMany", 300), family_told, word, poly_power(x, 24))
        self.refused(("TooMany", 300), family_told, word, poly_sum(z, poly_power(z, 120)))
        self.assertEqual([part.terms for part in family_told(word, poly_power(z, 23))], [{(0, 0, 23): 1}])
        self.assertEqual(family_told(word, constant(5, 3, 0)), [constant(5, 3, 0)])
        far = ("turns", 5, (2, 4))
        a, b = letters(5, 2)
        self.assertEqual([part.terms for part in family_told(far, poly_sum(poly_power(a, 120), poly_power(b, 116)))],
                         [{(60, 0): 1, (0, 29): 1}])


if __name__ == "__main__":
    unittest.main()
