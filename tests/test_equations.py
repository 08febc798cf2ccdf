"""Point [111], unswayed/equations.py."""

import itertools
import unittest

from tests.test_makers import H, LOT, SHEAR, SHEAR_LOT, X, XX, XY, Y, YY, degrees_of, lots_of_mild
from tests.tools import (
    NO_OBJECTS, ToolCase, drawn_table, house, letters, many_houses, slow_product, slow_put, slow_rank, slow_sum, some_poly,
    telling_of, trivial)
from unswayed.degrees import count_of
from unswayed.equations import are_equations, equations_of, followed
from unswayed.families import family_house
from unswayed.familylots import family_lot, family_others
from unswayed.houses import house_beside, house_led, is_mild
from unswayed.leadings import led
from unswayed.makers import makers_of
from unswayed.others import others_of
from unswayed.polys import Poly, constant, poly_power, poly_product, poly_scaled, poly_sum
from unswayed.putting import put_in
from unswayed.solving import inverse
from unswayed.tables import plain

MAKERS = [XX, XY, YY]
A, B, C = letters(5, 3)
ONE_EQUATION = poly_sum(poly_product(A, C), poly_scaled(poly_product(B, B), -1))


def weight_of(makers, poly):
    """The one weight of all rows of a Poly."""
    weights = {sum(e * maker.degree for e, maker in zip(row, makers)) for row in poly.terms}
    assert len(weights) == 1
    return weights.pop()


def weighed_rows(makers, weight):
    """All rows of exponents of this weight."""
    found = [((), 0)]
    for maker in makers:
        found = [(row + (e,), total + e * maker.degree) for row, total in found
                 for e in range((weight - total) // maker.degree + 1)]
    return [row for row, total in found if total == weight]


def made_rank(makers, several, weight):
    """The rank of all products, of this weight, of one of several and a row."""
    rows = weighed_rows(makers, weight)
    lines = []
    for item in several:
        for row in weighed_rows(makers, weight - weight_of(makers, item)):
            product = {tuple(a + b for a, b in zip(row, more)): number for more, number in item.terms.items()}
            lines.append([product.get(key, 0) for key in rows])
    return slow_rank(lines, makers[0].prime), len(rows)


def solved_lots():
    """Mild houses, lots and fewest makers that the functions take, by names."""
    found = {name: (one, lot, makers_of(one, lot)) for name, (one, lot) in lots_of_mild().items()}
    return {name: three for name, three in found.items() if len(three[2]) <= 12}


LOTS = solved_lots()


class EquationsTest(ToolCase):
    def test_many_houses(self):
        for name, (one, lot, makers) in LOTS.items():
            found = self.unchanged(equations_of, one, lot, makers)
            self.assertIsInstance(found, list)
            weights = [weight_of(makers, each) for each in found]
            self.assertEqual(weights, sorted(weights))
            self.assertTrue(all((each.prime, each.wide) == (one.prime, len(makers)) for each in found))
            self.assertTrue(all(slow_put(each, makers).terms == {} for each in found if each.degree < 20), name)
            self.assertEqual(found == [], len(makers) == one.wide, name)
            if found:
                self.assertLessEqual(weights[-1], 2 * min(one.size, others_of(one, lot)[-1].degree), name)
            self.assertIs(are_equations(one, lot, makers, found), True)

    def test_they_tell_all_and_none_can_be_left_out(self):
        for name, (one, lot, makers) in LOTS.items():
            found = equations_of(one, lot, makers)
            most = min(2 * one.size, 26 if one.wide < 3 else 13)
            for weight in range(1, most + 1):
                made, many = made_rank(makers, found, weight)
                self.assertEqual(made, many - count_of(one, weight), (name, weight))
            for at, each in enumerate(found):
                weight = weight_of(makers, each)
                if weight <= most:
                    less = found[:at] + found[at + 1:]
                    self.assertLess(made_rank(makers, less, weight)[0], made_rank(makers, found, weight)[0], name)

    def test_by_hand(self):
        found = equations_of(house=H, lot=LOT, makers=MAKERS)
        self.assertEqual(len(found), 1)
        self.assertIn(found[0].terms, [poly_scaled(ONE_EQUATION, k).terms for k in range(1, 5)])
        word = ("weights", 97, 48, (1, 47))
        one, lot = family_house(word), family_lot(word)
        a, b = letters(97, 2)
        makers = [poly_power(a, 48), poly_product(a, b), poly_power(b, 48)]
        found = equations_of(one, lot, makers)
        # The weight is twice the size.
        self.assertEqual([weight_of(makers, each) for each in found], [96])
        u, v, w = letters(97, 3)
        far = poly_sum(poly_product(u, w), poly_scaled(poly_power(v, 48), 96))
        self.assertIs(are_equations(one, lot, makers, [poly_scaled(far, 5)]), True)
        self.assertIn(found[0], [poly_scaled(far, k) for k in range(1, 97)])

    def test_nothing_hangs_on_the_lot_or_the_makers(self):
        big = [poly_power(XX, 3), poly_power(YY, 4)]
        changed = [poly_sum(XX, XY), poly_scaled(XY, 3), poly_sum(YY, XX)]
        for lot in (LOT, [poly_sum(XX, YY), XY], big, tuple(big)):
            for makers in (MAKERS, MAKERS[::-1], tuple(changed)):
                found = equations_of(H, lot, makers)
                self.assertEqual([weight_of(makers, each) for each in found], [4])
                self.assertEqual(slow_put(found[0], makers).terms, {})
        word = ("weights", 7, 6, (1, 5, 2))
        one, lot, makers = LOTS[str(word)]
        g = drawn_table(7, 3, "other")
        back = inverse(g)
        there = [led(poly, back) for poly in makers]
        found = equations_of(one, lot, makers)
        self.assertIs(are_equations(house_led(one, g), [led(poly, back) for poly in lot], there, found), True)

    def test_others_above_120_do_not_matter(self):
        a, b = letters(97, 2)
        one = house(97, [[96, 0], [0, 96]])
        far = [poly_power(a, 120), poly_power(b, 120)]
        self.refused(("TooMany", 120), others_of, one, far)
        makers = [poly_product(a, a), poly_product(a, b), poly_product(b, b)]
        found = equations_of(one, far, makers)
        self.assertEqual([weight_of(makers, each) for each in found], [4])
        self.assertIs(are_equations(one, far, makers, found), True)

    def test_errors_in_their_sequence(self):
        calls = (equations_of, ()), (are_equations, (None,)), (followed, (None, letters(3, 2)[0]))
        x, y, z = letters(5, 3)
        for call, more in calls:
            for thing in NO_OBJECTS:
                self.refused(("BadHouse", None), call, thing, None, None, *more)
                self.refused(("BadMakers",), call, H, LOT, thing, *more)
            for name, one in many_houses().items():
                if not is_mild(one):
                    self.refused(("NoMean",), call, one, None, None, *more)
            self.refused(("NoMean",), call, SHEAR, SHEAR_LOT, None, *more)
            for lot in NO_OBJECTS + ([XX], [XX, XX], [XX, XY], [X, Y]):
                self.refused(("BadLot",), call, H, lot, None, *more)
            self.refused(("TooMany", 300), call, trivial(5, 3), [poly_power(x, 24), y, z], None, *more)
            for makers in ([XX, YY], MAKERS + [XX], MAKERS + [poly_product(XX, XX)], [XX, XY, YY, X]):
                self.refused(("BadMakers",), call, H, LOT, makers, *more)
        for thing in NO_OBJECTS:
            self.refused(("BadPoly",), followed, SHEAR, None, None, None, thing)
            self.refused(("BadHouse", None), followed, plain(5, 2), None, None, None, thing)

    def test_too_many_makers_or_rows(self):
        # 13 makers; 9 makers with 367 rows of one weight; 4 makers and weights up to 24 in 3 unknowns.
        cases = (
            (("weights", 97, 48, (1, 7)), ("TooMany", 12)), (("weights", 31, 30, (1, 16)), ("TooMany", 300)),
            (("weights", 13, 12, (0, 1, 11)), ("TooMany", 300)), (("weights", 31, 15, (1, 10, 10)), ("TooMany", 300)))
        for word, told in cases:
            one, lot = family_house(word), family_lot(word)
            makers = makers_of(one, lot)
            for call, more in ((equations_of, ()), (are_equations, (None,)), (followed, (None, letters(3, 2)[0]))):
                self.refused(told, call, one, lot, makers, *more)
                self.refused(("BadMakers",), call, one, lot, makers + makers[:1], *more)
            if told[1] == 300:
                most = 2 * min(one.size, family_others(word)[-1].degree)
                rows = [len(weighed_rows(makers, weight)) for weight in range(most + 1)]
                self.assertTrue(max(rows) > 300 or one.wide == 3 and most > 23, word)
                self.assertEqual(max(rows) > 300, word[1] == 31)
        # Weights up to 20 and up to 24, twice the degree of others, in 3 unknowns; the size is greater.
        for order, told in ((4, None), (5, ("TooMany", 300))):
            word = ("twin", 2 * order + 1 if order == 5 else 7, order)
            plane = family_lot(word)
            one = house_beside(trivial(word[1], 1), family_house(word))
            x, y, z = letters(word[1], 3)
            lot = [x] + [put_in(poly, [y, z]) for poly in plane]
            self.assertEqual((others_of(one, lot)[-1].degree, one.size), (2 * order + 2, 4 * order))
            makers = makers_of(one, lot)
            self.assertEqual(telling_of(equations_of, one, lot, makers), told)
        # Just below: 241 rows of the weight 20, 283 of the weight 84.
        for word, many in ((("weights", 11, 10, (1, 4, 4)), 12), (("weights", 43, 42, (1, 29)), 7)):
            one, lot = family_house(word), family_lot(word)
            makers = makers_of(one, lot)
            self.assertEqual(len(makers), many)
            found = equations_of(one, lot, makers)
            self.assertIs(are_equations(one, lot, makers, found), True)
            self.assertIs(are_equations(one, lot, makers, found[:-1]), False)
            self.assertTrue(all(slow_put(each, makers).terms == {} for each in found))


class AreEquationsTest(ToolCase):
    def test_any_value(self):
        square = poly_power(ONE_EQUATION, 2)
        for thing in ([ONE_EQUATION], (ONE_EQUATION,), [poly_scaled(ONE_EQUATION, 3)], [square, ONE_EQUATION],
                      [ONE_EQUATION, ONE_EQUATION], [ONE_EQUATION, poly_product(ONE_EQUATION, A)],
                      [poly_product(ONE_EQUATION, poly_power(B, 58)), ONE_EQUATION]):
            self.assertIs(self.unchanged(are_equations, H, LOT, MAKERS, thing), True)
        lifted = Poly(5, 4, {row + (0,): number for row, number in ONE_EQUATION.terms.items()})
        wrong = NO_OBJECTS + (
            [square], [poly_product(ONE_EQUATION, A)], [A], [ONE_EQUATION, A], [ONE_EQUATION, Poly(5, 3, {})],
            [ONE_EQUATION, poly_sum(ONE_EQUATION, square)], [ONE_EQUATION, None], [lifted], [X], ONE_EQUATION, {0: ONE_EQUATION},
            [ONE_EQUATION, poly_product(ONE_EQUATION, poly_power(B, 59))], [ONE_EQUATION, constant(5, 3, 1)],
            [Poly(3, 3, {(1, 0, 1): 1, (0, 2, 0): 2})], [True], [poly_sum(ONE_EQUATION, poly_product(B, B))], "a",
            [poly_sum(ONE_EQUATION, poly_product(ONE_EQUATION, A))])
        for thing in wrong:
            self.assertIs(are_equations(H, LOT, MAKERS, thing), False)
        self.assertIs(are_equations(house=H, lot=LOT, makers=MAKERS, thing=[ONE_EQUATION]), True)

    def test_none_where_there_are_as_many_makers_as_unknowns(self):
        for name, (one, lot, makers) in LOTS.items():
            if len(makers) == one.wide:
                for thing in ([], ()):
                    self.assertIs(are_equations(one, lot, makers, thing), True, name)
                for thing in ({}, None, letters(one.prime, one.wide), [Poly(one.prime, one.wide, {})]):
                    self.assertIs(are_equations(one, lot, makers, thing), False, name)

    def test_changed_ones(self):
        for name, (one, lot, makers) in LOTS.items():
            found = equations_of(one, lot, makers)
            if found:
                changed = [poly_scaled(each, one.prime - 1) for each in found]
                same = [at for at, each in enumerate(found) if weight_of(makers, each) == weight_of(makers, found[0])]
                changed[0] = poly_sum(changed[0], changed[same[-1]]) if len(same) > 1 else changed[0]
                self.assertIs(are_equations(one, lot, makers, changed[::-1]), True, name)
                self.assertIs(are_equations(one, lot, makers, found[1:]), False, name)
                self.assertIs(are_equations(one, lot, makers, found[:-1]), False, name)
                letter = letters(one.prime, len(makers))[0]
                self.assertIs(are_equations(one, lot, makers, found[:-1] + [poly_product(letter, found[-1])]), False, name)


class FollowedTest(ToolCase):
    def total(self, parts, several):
        total = Poly(several[0].prime, several[0].wide, {})
        for part, item in zip(parts, several):
            total = slow_sum(total, slow_product(part, item))
        return total

    def test_many_houses(self):
        for name, (one, lot, makers) in LOTS.items():
            several = equations_of(one, lot, makers)
            if several and degrees_of(several)[-1] < 20:
                several = several + [poly_product(several[0], letters(one.prime, len(makers))[-1])]
                parts = [some_poly(one.prime, len(makers), 2, f"{name} {at}", 2) for at in range(len(several))]
                goal = self.total(parts, several)
                found = self.unchanged(followed, one, lot, makers, several, goal)
                self.assertEqual(len(found), len(several))
                self.assertEqual(self.total(found, several), goal, name)
                self.assertIsNone(followed(one, lot, makers, several, poly_sum(goal, constant(one.prime, len(makers), 1))))
                self.assertIsNone(followed(one, lot, makers, several, letters(one.prime, len(makers))[0]))

    def test_no_equations(self):
        for name, (one, lot, makers) in LOTS.items():
            if len(makers) == one.wide:
                none = Poly(one.prime, one.wide, {})
                self.assertEqual(followed(one, lot, makers, [], none), [], name)
                self.assertIsNone(followed(one, lot, makers, (), letters(one.prime, one.wide)[-1]), name)

    def test_by_hand(self):
        several = [ONE_EQUATION, poly_power(ONE_EQUATION, 2)]
        self.assertEqual(followed(house=H, lot=LOT, makers=MAKERS, several=several, poly=Poly(5, 3, {})), [Poly(5, 3, {})] * 2)
        goal = poly_sum(poly_product(poly_power(A, 2), poly_power(C, 2)), poly_scaled(poly_power(B, 4), 4))
        found = followed(H, LOT, MAKERS, [ONE_EQUATION], goal)
        self.assertEqual(found, [poly_sum(poly_product(A, C), poly_power(B, 2))])
        mixed = poly_sum(goal, poly_scaled(ONE_EQUATION, 2))
        self.assertEqual(self.total(followed(H, LOT, MAKERS, several, mixed), several), mixed)

    def test_weights_above_120_and_many_rows(self):
        several = [ONE_EQUATION]
        self.refused(("TooMany", 120), followed, H, LOT, MAKERS, several, poly_power(A, 61))
        self.refused(("TooMany", 120), followed, H, LOT, MAKERS, several, poly_product(ONE_EQUATION, poly_power(C, 59)))
        self.assertIsNone(followed(H, LOT, MAKERS, several, poly_power(A, 60)))
        # There are 276 rows of the weight 44, 300 of 46, 325 of 48.
        goal = poly_product(ONE_EQUATION, poly_power(C, 21))
        self.assertEqual(followed(H, LOT, MAKERS, several, goal), [poly_power(C, 21)])
        self.refused(("TooMany", 300), followed, H, LOT, MAKERS, several, poly_product(ONE_EQUATION, poly_power(C, 22)))
        self.refused(("TooMany", 300), followed, H, LOT, MAKERS, several, poly_product(ONE_EQUATION, poly_power(C, 58)))
        self.assertIsNone(followed(H, LOT, MAKERS, several, poly_sum(A, poly_product(ONE_EQUATION, poly_power(C, 58)))))
        word = ("weights", 97, 48, (1, 47))
        one, lot = family_house(word), family_lot(word)
        a, b = letters(97, 2)
        makers = [poly_power(a, 48), poly_product(a, b), poly_power(b, 48)]
        several = equations_of(one, lot, makers)
        v = letters(97, 3)[1]
        goal = poly_product(several[0], poly_power(v, 12))
        self.assertEqual(followed(one, lot, makers, several, goal), [poly_power(v, 12)])
        self.refused(("TooMany", 120), followed, one, lot, makers, several, poly_product(goal, v))
        self.refused(("BadEquations",), followed, one, lot, makers, several + [poly_product(goal, v)], goal)

    def test_errors_in_their_sequence(self):
        for wrong in NO_OBJECTS + ([A], [ONE_EQUATION, A], [poly_power(ONE_EQUATION, 2)]):
            self.refused(("BadEquations",), followed, H, LOT, MAKERS, wrong, letters(3, 3)[0])
        for poly in (letters(3, 3)[0], letters(5, 2)[0], letters(5, 4)[0]):
            self.refused(("BadPoly",), followed, H, LOT, MAKERS, [ONE_EQUATION], poly)


class ManyEquationsTest(ToolCase):
    def test_each_weight_of_some_houses(self):
        """All equations are what is over of the rows, far above the weights of those told."""
        for word in (("weights", 7, 3, (1, 1, 2)), ("twin", 5, 3), ("even", 5, 3)):
            one, lot, makers = LOTS[str(word)]
            several = equations_of(one, lot, makers)
            for weight in itertools.chain(range(12, 16), (20,)):
                if len(weighed_rows(makers, weight)) < 120:
                    made, many = made_rank(makers, several, weight)
                    self.assertEqual(made, many - count_of(one, weight), (word, weight))


if __name__ == "__main__":
    unittest.main()
