"""Point [128], unswayed/steps.py."""

import itertools
import unittest

from tests.tools import (
    NO_NUMBERS, NO_OBJECTS, ToolCase, drawn_table, house, is_slow_unswayed, letters, level_poly, many_houses, signed, slow_led,
    slow_product, slow_rank, slow_sum, slow_value, small_houses, some_points, some_poly, trivial)
from unswayed.degrees import count_of, unswayed_of
from unswayed.houses import House, house_led, is_mild
from unswayed.inner import index_of, inner_houses, is_inner, keeper, share_tables
from unswayed.leadings import led, led_lot
from unswayed.means import mean
from unswayed.ownpolys import own_poly
from unswayed.polys import (
    Poly, constant, is_level, layer_of, poly_power, poly_product, poly_scaled, poly_sum, rows_of)
from unswayed.solving import inverse
from unswayed.steps import is_step, led_equation, mean_over, more_of, step_poly, step_told
from unswayed.tables import plain

H = house(5, [[4, 0], [0, 4]])
SIGNED = house(5, [[0, 1], [1, 0]], [[4, 0], [0, 1]])
SHEAR = small_houses()["shear 3 2"]
X, Y = letters(5, 2)


def numbers_only(one, number):
    return constant(one.prime, one.wide, number)


def some_pairs(most=24):
    """Houses and inner houses of them, by names; some have a prime that divides the size, but not the index."""
    found = []
    for name, one in many_houses().items():
        if one.size <= most:
            houses = inner_houses(one)
            picked = {0: houses[0], len(houses) // 2: houses[len(houses) // 2], len(houses) - 2: houses[max(0, len(houses) - 2)]}
            picked[len(houses) - 1] = one
            found += [(name, one, inner) for inner in picked.values()]
    return found


def share_sum(one, polys):
    total = polys[0]
    for poly in polys[1:]:
        total = slow_sum(total, poly)
    return total


def slow_determinant_of(lines):
    """The determinant of a list of lists of Polys, along the first line."""
    first = lines[0][0]
    if len(lines) == 1:
        return first
    total = constant(first.prime, first.wide, 0)
    for at, poly in enumerate(lines[0]):
        part = slow_product(poly, slow_determinant_of([line[:at] + line[at + 1:] for line in lines[1:]]))
        total = slow_sum(total, poly_scaled(part, (-1) ** at))
    return total


def kept_polys(inner, many, most):
    """Some Polys that inner leaves as they are, of low degrees."""
    found = []
    for degree in range(most + 1):
        found += unswayed_of(inner, degree)
    return found[:many]


class LedEquationTest(ToolCase):
    def test_many_houses(self):
        for name, one in many_houses().items():
            for seed in range(2):
                poly = some_poly(one.prime, one.wide, 2, f"{name} {seed}", 3)
                if one.size > 8 and seed:
                    poly = (unswayed_of(House(one.prime, one.wide, [one.tables[-1]]), 2) + [poly])[0]
                lot = led_lot(one, poly)
                if poly.degree * len(lot) > (30 if one.wide < 3 else 10):
                    continue
                told = self.unchanged(led_equation, one, poly)
                self.assertEqual(len(told), len(lot) + 1, name)
                self.assertEqual(told[-1], numbers_only(one, 1))
                self.assertTrue(all(is_slow_unswayed(one, each) for each in told if each.degree < 20), name)
                total = numbers_only(one, 0)
                for each in told[::-1]:
                    total = slow_sum(slow_product(total, poly), each)
                self.assertEqual(total.terms, {}, name)
                # At points, for numbers z: the product of all z - f.
                for point in some_points(one, name, 2):
                    for z in range(min(one.prime, 4)):
                        product = 1
                        for each in lot:
                            product *= z - slow_value(each, point)
                        numbers = [slow_value(each, point) * z ** at for at, each in enumerate(told)]
                        self.assertEqual(sum(numbers) % one.prime, product % one.prime, name)

    def test_no_shorter_list(self):
        """Shorter lists of unswayed Polys of low degrees do not do: products with powers are independent."""
        for name in ("signed 5 2", "minus 5 2", "shear 3 2", "all 2 2", "cycle 2 3", "quaternions 3 2"):
            one = many_houses()[name]
            for inner in inner_houses(one):
                if index_of(one, inner) <= 4:
                    poly = own_poly(one, inner)
                    products = []
                    for power in range(index_of(one, inner)):
                        for degree in range(5):
                            products += [slow_product(each, poly_power(poly, power)) for each in unswayed_of(one, degree)]
                    rows = sorted({row for each in products for row in each.terms})
                    self.assertEqual(slow_rank([[each.terms.get(row, 0) for row in rows] for each in products], one.prime),
                                     len(products), name)

    def test_degrees_up_to_120(self):
        poly = poly_sum(poly_power(X, 60), poly_power(Y, 59))
        self.assertEqual(len(led_lot(H, poly)), 2)
        self.assertEqual([each.degree for each in led_equation(house=H, poly=poly)], [120, 60, 0])
        self.refused(("TooMany", 120), led_equation, H, poly_sum(poly_power(X, 61), Y))
        self.refused(("TooMany", 120), led_equation, H, poly_power(X, 61))
        even = poly_power(X, 120)
        self.assertEqual(led_equation(H, even), [poly_scaled(even, -1), constant(5, 2, 1)])
        # z ** 2 - x ** 120: only that of the power 0 has terms, beside 1.
        self.assertEqual([each.degree for each in led_equation(house(5, [[4]]), Poly(5, 1, {(59,): 2}))], [118, -1, 0])
        self.refused(("TooMany", 120), led_equation, SIGNED, poly_sum(poly_power(X, 17), Y))
        self.assertEqual(led_equation(SIGNED, poly_sum(poly_power(X, 15), Y))[0].degree, 120)

    def test_by_hand_and_wrong_inputs(self):
        self.assertEqual([each.terms for each in led_equation(SIGNED, X)], [
            {(2, 2): 1}, {}, {(2, 0): 4, (0, 2): 4}, {}, {(0, 0): 1}])
        self.assertEqual(led_equation(H, Poly(5, 2, {})), [Poly(5, 2, {}), constant(5, 2, 1)])
        self.assertEqual(led_equation(H, constant(5, 2, 2)), [constant(5, 2, 3), constant(5, 2, 1)])
        for thing in NO_OBJECTS:
            self.refused(("BadHouse", None), led_equation, thing, X)
            self.refused(("BadPoly",), led_equation, H, thing)
        for poly in (letters(3, 2)[0], letters(5, 3)[0]):
            self.refused(("BadPoly",), led_equation, H, poly)


class StepTest(ToolCase):
    def test_many_houses(self):
        for name, one, inner in some_pairs():
            index = index_of(one, inner)
            if index <= 4:
                shares = share_tables(one, inner)
                for polys in (kept_polys(inner, index, 4), kept_polys(inner, index + 2, 5)[-index:]):
                    if len(polys) == index:
                        found = self.unchanged(step_poly, one, inner, polys)
                        lines = [[slow_led(poly, each) for each in shares] for poly in polys]
                        self.assertEqual(found, slow_determinant_of(lines), name)
                        self.assertIs(is_step(one, inner, polys), found.terms != {}, name)
                        for each in one.few:
                            self.assertIn(slow_led(found, each), (found, poly_scaled(found, -1)))

    def test_powers_make_a_step(self):
        for name, one, inner in some_pairs():
            index = index_of(one, inner)
            poly = own_poly(one, inner)
            if index <= 6 and poly.degree * index * (index - 1) // 2 <= 30:
                polys = tuple(poly_power(poly, at) for at in range(index))
                self.assertIs(is_step(one, inner, polys), True, name)
                if index > 1:
                    less = polys[:-1] + (poly_sum(polys[0], polys[-2]),)
                    self.assertIs(is_step(one, inner, less), False, name)

    def test_a_step_is_independent_over_the_unswayed_polys(self):
        """Products of Polys and unswayed ones are independent exactly if the Polys make a step."""
        seen = set()
        for name in ("signed 5 2", "minus 5 2", "shear 3 2", "all 2 2", "cycle 2 3", "exchanges 5 3", "special 3 2", "planes 2 3"):
            one = many_houses()[name]
            for inner in inner_houses(one):
                index = index_of(one, inner)
                if index in (2, 3):
                    kept = kept_polys(inner, 9, 4)
                    for polys in itertools.islice(itertools.combinations(kept, index), 0, 30, 5):
                        step = step_poly(one, inner, polys)
                        # Where there is no step, the minors of one line less tell a sum that is 0, of these degrees.
                        most = sum(poly.degree for poly in polys)
                        products = [
                            slow_product(poly, each) for poly in polys for degree in range(most + 4 - poly.degree)
                            for each in unswayed_of(one, degree)]
                        rows = sorted({row for each in products for row in each.terms})
                        rank = slow_rank([[each.terms.get(row, 0) for row in rows] for each in products], one.prime)
                        self.assertEqual(rank == len(products), step.terms != {}, name)
                        self.assertIs(is_step(one, inner, list(polys)), step.terms != {})
                        seen.add((index, step.terms != {}))
        self.assertEqual(seen, set(itertools.product((2, 3), (True, False))))

    def test_index_6_and_above(self):
        six = house(7, [[3]])
        t = Poly(7, 1, {(1,): 1})
        polys = [poly_power(t, at) for at in range(6)]
        self.assertEqual(step_poly(six, trivial(7, 1), polys).degree, 15)
        exchanges = many_houses()["exchanges 5 3"]
        x, y, z = letters(5, 3)
        # x ** a * y ** b with a below 3 and b below 2.
        rows = [(a, b, 0) for a in range(3) for b in range(2)]
        polys = [Poly(5, 3, {row: 1}) for row in rows]
        found = step_poly(exchanges, trivial(5, 3), polys)
        gaps = [poly_sum(a, poly_scaled(b, -1)) for a, b in ((x, y), (x, z), (y, z))]
        whole = slow_product(slow_product(gaps[0], gaps[1]), gaps[2])
        self.assertIn(found, [poly_power(whole, 3), poly_scaled(poly_power(whole, 3), -1)])
        one = trivial(5, 2)
        eight = [X, Y] + [constant(5, 2, at) for at in range(6)]
        for call in (step_poly, is_step):
            self.refused(("TooMany", 6), call, SIGNED, one, eight)
            self.refused(("TooMany", 6), call, SIGNED, one, [poly_power(X, 120)] * 8)
            self.refused(("BadPoly",), call, SIGNED, one, eight[1:])
            self.refused(("BadPoly",), call, SIGNED, one, eight[1:] + [None])
        self.refused(("TooMany", 6), step_told, SIGNED, one, eight, X)
        self.refused(("TooMany", 6), step_told, SIGNED, one, [Poly(5, 2, {})] * 8, X)
        self.refused(("BadPoly",), step_told, SIGNED, one, eight, letters(3, 2)[0])

    def test_degrees_up_to_120(self):
        one = trivial(5, 2)
        high = [poly_power(X, 60), poly_power(Y, 59)]
        found = step_poly(house=H, inner=one, polys=high)
        self.assertEqual(found.degree, 119)
        self.assertIs(is_step(house=H, inner=one, polys=high), True)
        odd = [poly_power(X, 61), poly_power(X, 59)]
        self.assertEqual(step_poly(H, one, odd), Poly(5, 2, {}))
        for call in (step_poly, is_step):
            self.refused(("TooMany", 120), call, H, one, [poly_power(X, 61), poly_power(Y, 60)])
            # 0 as it is, but the products of which it is the sum are too high.
            self.refused(("TooMany", 120), call, H, one, [poly_power(X, 61), poly_power(X, 61)])
        for polys in ([poly_power(X, 120), Poly(5, 2, {})], [Poly(5, 2, {}), Poly(5, 2, {})]):
            self.assertEqual(step_poly(H, one, polys), Poly(5, 2, {}))
            self.assertIs(is_step(H, one, polys), False)
        self.assertIs(is_step(H, one, [poly_power(X, 120), constant(5, 2, 1)]), False)
        self.assertIs(is_step(H, one, [poly_power(X, 119), constant(5, 2, 1)]), True)

    def test_errors_in_their_sequence(self):
        calls = (step_poly, (None,)), (is_step, (None,)), (step_told, (None, None)), (mean_over, (None,)), (more_of, (None,))
        for call, more in calls:
            for thing in NO_OBJECTS + (plain(5, 2),):
                self.refused(("BadHouse", None), call, thing, H, *more)
                self.refused(("BadHouse", None), call, H, thing, *more)
            for other in (SIGNED, trivial(3, 2), trivial(5, 3), trivial(5, 1), house(5, [[2, 0], [0, 2]])):
                self.refused(("BadInner",), call, H, other, *more)
        squares = [poly_product(X, X), poly_product(X, Y)]
        wrong = NO_OBJECTS + (
            [X], squares + [X], [X, None], [X, letters(3, 2)[0]], [letters(5, 3)[0], X], {0: X, 1: Y}, X, [1, 2])
        for polys in wrong:
            self.refused(("BadPoly",), step_poly, H, trivial(5, 2), polys)
            self.refused(("BadPoly",), is_step, H, trivial(5, 2), polys)
            self.refused(("BadPoly",), step_told, H, trivial(5, 2), polys, X)
        for polys in ([X, squares[0], squares[1], Y], squares, squares * 2 + [X]):
            self.refused(("BadPoly",), step_poly, SIGNED, H, polys)


class ToldTest(ToolCase):
    def test_many_houses(self):
        for name, one, inner in some_pairs():
            index = index_of(one, inner)
            poly = own_poly(one, inner)
            if index <= 4 and poly.degree * index * (index - 1) <= 24:
                polys = [poly_power(poly, at) for at in range(index)]
                goal = (kept_polys(inner, index + 3, 4))[-1]
                told = self.unchanged(step_told, one, inner, polys, goal)
                self.assertEqual(len(told), index)
                step = step_poly(one, inner, polys)
                self.assertTrue(all(is_slow_unswayed(one, each) for each in told if each.degree < 12), name)
                total = numbers_only(one, 0)
                for part, each in zip(told, polys):
                    total = slow_sum(total, slow_product(part, each))
                self.assertEqual(total, slow_product(goal, slow_product(step, step)), name)
                for at, part in enumerate(told):
                    other = step_poly(one, inner, polys[:at] + [goal] + polys[at + 1:])
                    self.assertEqual(part, slow_product(step, other), name)

    def test_no_step(self):
        one = trivial(5, 2)
        for polys in ([X, poly_product(X, poly_product(X, X))], [X, X], [X, Poly(5, 2, {})], [constant(5, 2, 1)] * 2):
            self.refused(("NoStep",), step_told, H, one, polys, poly_power(X, 120))
        self.refused(("TooMany", 120), step_told, H, one, [poly_power(X, 61), poly_power(X, 61)], X)
        for poly in NO_OBJECTS + (letters(3, 2)[0], letters(5, 3)[0]):
            self.refused(("BadPoly",), step_told, H, one, [X, X], poly)
        self.refused(("BadPoly",), step_told, SIGNED, H, [poly_product(X, X)] * 4, X)

    def test_degrees_up_to_120(self):
        one = trivial(5, 2)
        polys = [constant(5, 2, 1), X]
        told = step_told(house=H, inner=one, polys=polys, poly=poly_power(X, 118))
        self.assertEqual([each.degree for each in told], [120, -1])
        self.assertEqual([each.degree for each in step_told(H, one, polys, poly_power(X, 119))], [-1, 120])
        self.assertEqual([each.degree for each in step_told(H, one, polys, poly_product(poly_power(X, 118), Y))], [-1, 120])
        self.refused(("TooMany", 120), step_told, H, one, polys, poly_power(Y, 120))
        # The determinants are not too high, their product is.
        high = [poly_power(X, 50), poly_power(Y, 49)]
        self.refused(("TooMany", 120), step_told, H, one, high, poly_power(X, 120))
        self.refused(("TooMany", 120), step_told, H, one, high, X)
        self.assertEqual(step_told(H, one, high, Poly(5, 2, {})), [Poly(5, 2, {})] * 2)
        # With a Poly of even degree twice nothing is left: what is 0 is not too high.
        lines = [poly_power(X, 30), poly_power(X, 29)]
        self.assertEqual([each.degree for each in step_told(H, one, lines, X)], [-1, 90])
        self.refused(("TooMany", 120), step_told, H, one, [poly_power(X, 60), poly_power(X, 59)], poly_power(X, 2))
        self.assertEqual(step_told(H, H, [constant(5, 2, 2)], poly_power(X, 120)), [poly_scaled(poly_power(X, 120), 2)])
        self.refused(("TooMany", 120), step_told, H, H, [poly_product(X, X)], poly_power(X, 120))


class MeanOverTest(ToolCase):
    def test_many_houses(self):
        seen = set()
        for name, one, inner in some_pairs():
            index = index_of(one, inner)
            for poly in kept_polys(inner, 4, 3):
                if index % one.prime == 0:
                    self.refused(("NoMean",), mean_over, one, inner, poly)
                    continue
                found = self.unchanged(mean_over, one, inner, poly)
                images = [slow_led(poly, each) for each in share_tables(one, inner)]
                self.assertEqual(poly_scaled(found, index), share_sum(one, images), name)
                self.assertTrue(is_slow_unswayed(one, found), name)
                self.assertEqual(mean_over(one, inner, found), found)
                seen.add((is_mild(one), index > 1))
                if is_mild(one):
                    raw = some_poly(one.prime, one.wide, 4, name, 3)
                    self.assertEqual(mean(one, raw), mean_over(one, inner, mean(inner, raw)), name)
                for factor in unswayed_of(one, 2)[:1]:
                    self.assertEqual(mean_over(one, inner, slow_product(poly, factor)), slow_product(found, factor))
        self.assertEqual(seen, set(itertools.product((True, False), repeat=2)))

    def test_in_steps(self):
        for name in ("signed 5 2", "special 3 2", "three mirrors 3 3", "shear and scale 5 2", "drawn special 3 2"):
            one = many_houses()[name]
            houses = inner_houses(one)
            for inner, middle in itertools.product(houses[:6], houses[2::3]):
                if is_inner(middle, inner) and index_of(one, inner) % one.prime:
                    for poly in kept_polys(inner, 5, 3):
                        self.assertEqual(mean_over(one, inner, poly), mean_over(one, middle, mean_over(middle, inner, poly)))

    def test_by_hand_and_wrong_inputs(self):
        self.assertEqual(mean_over(house=SIGNED, inner=house(5, [[4, 0], [0, 4]]), poly=poly_product(X, X)).terms, {(2, 0): 3, (0, 2): 3})
        # The prime divides the size, not the index.
        one = house(3, [[1, 1], [0, 1]], [[2, 0], [0, 2]])
        a, b = letters(3, 2)
        self.assertEqual(mean_over(one, SHEAR, b), Poly(3, 2, {}))
        self.assertEqual(mean_over(one, SHEAR, poly_product(b, b)), poly_product(b, b))
        self.refused(("NoMean",), mean_over, one, trivial(3, 2), a)
        self.refused(("NoMean",), mean_over, SHEAR, trivial(3, 2), a)
        for poly in NO_OBJECTS + (a, letters(5, 2)[0], letters(3, 3)[0]):
            self.refused(("BadPoly",), mean_over, one, SHEAR, poly)
            self.refused(("BadInner",), mean_over, SHEAR, one, poly)
        for poly in NO_OBJECTS + (letters(5, 2)[0], letters(3, 3)[0]):
            self.refused(("BadPoly",), mean_over, SHEAR, trivial(3, 2), poly)


class MoreTest(ToolCase):
    def test_many_houses(self):
        for name, one, inner in some_pairs():
            for degree in range(5 if one.wide < 3 else 4):
                if index_of(one, inner) % one.prime == 0:
                    self.refused(("NoMean",), more_of, one, inner, degree)
                    continue
                found = self.unchanged(more_of, one, inner, degree)
                self.assertEqual(len(found), count_of(inner, degree) - count_of(one, degree), (name, degree))
                firsts = [min(poly.terms) for poly in found]
                self.assertEqual(firsts, sorted(firsts))
                for at, poly in enumerate(found):
                    self.assertTrue(is_level(poly) and poly.degree == degree)
                    self.assertTrue(is_slow_unswayed(inner, poly), name)
                    self.assertEqual(mean_over(one, inner, poly).terms, {}, name)
                    self.assertEqual([each.terms.get(firsts[at], 0) for each in found], [int(k == at) for k in range(len(found))])
                both = found + unswayed_of(one, degree)
                rows = rows_of(one.wide, degree)
                self.assertEqual(slow_rank([[each.terms.get(row, 0) for row in rows] for each in both], one.prime),
                                 count_of(inner, degree), name)

    def test_products_with_unswayed_polys(self):
        for name in ("signed 5 2", "exchanges 5 3", "scaled 13 2", "special 3 2"):
            one = many_houses()[name]
            inner = inner_houses(one)[-3]
            if index_of(one, inner) % one.prime:
                for poly in more_of(one, inner, 4)[:2]:
                    for factor in unswayed_of(one, 4)[:1]:
                        lot = more_of(one, inner, 8)
                        rows = rows_of(one.wide, 8)
                        lines = [[each.terms.get(row, 0) for row in rows] for each in lot + [slow_product(poly, factor)]]
                        self.assertEqual(slow_rank(lines, one.prime), len(lot), name)

    def test_by_hand_and_wrong_inputs(self):
        self.assertEqual([poly.terms for poly in more_of(house=SIGNED, inner=H, degree=2)], [{(0, 2): 1, (2, 0): 4}, {(1, 1): 1}])
        self.assertEqual(more_of(H, H, 2), [])
        self.assertEqual(more_of(H, trivial(5, 2), 0), [])
        self.assertEqual([poly.terms for poly in more_of(H, trivial(5, 2), 1)], [{(0, 1): 1}, {(1, 0): 1}])
        for degree in NO_NUMBERS + (-1, 121):
            self.refused(("BadNumber", "degree"), more_of, H, trivial(5, 2), degree)
            self.refused(("BadNumber", "degree"), more_of, SHEAR, trivial(3, 2), degree)
        minus = house(11, [[10, 0, 0], [0, 10, 0], [0, 0, 10]])
        self.refused(("TooMany", 300), more_of, minus, trivial(11, 3), 24)
        self.assertEqual(len(more_of(minus, trivial(11, 3), 23)), 300)
        self.assertEqual(more_of(minus, trivial(11, 3), 22), [])
        shear = house(3, [[1, 1, 0], [0, 1, 0], [0, 0, 1]])
        self.refused(("NoMean",), more_of, shear, trivial(3, 3), 120)
        self.assertEqual(more_of(shear, shear, 20), [])
        self.assertEqual(len(more_of(H, trivial(5, 2), 119)), 120)


class CoordinatesTest(ToolCase):
    def test_other_coordinates(self):
        for name, one, inner in some_pairs(8):
            g = drawn_table(one.prime, one.wide, name + "steps")
            back = inverse(g)
            other, there = house_led(one, g), house_led(inner, g)
            for poly in kept_polys(inner, 3, 3)[1:]:
                if index_of(one, inner) % one.prime:
                    self.assertEqual(mean_over(other, there, led(poly, back)), led(mean_over(one, inner, poly), back), name)
                self.assertEqual(led_equation(other, led(poly, back)), [led(each, back) for each in led_equation(one, poly)])
            self.assertEqual(keeper(other, led(own_poly(one, inner), back)), there)

    def test_48_tables(self):
        one = signed(5)
        inner = House(5, 3, [each for each in one.tables if each.lines[0] in ((1, 0, 0), (4, 0, 0))])
        self.assertEqual(index_of(one, inner), 3)
        x = letters(5, 3)[0]
        square = poly_product(x, x)
        polys = [poly_power(square, at) for at in range(3)]
        step = step_poly(one, inner, polys)
        self.assertEqual(step.degree, 6)
        told = step_told(one, inner, polys, poly_power(square, 3))
        total = constant(5, 3, 0)
        for part, each in zip(told, polys):
            total = poly_sum(total, poly_product(part, each))
        self.assertEqual(total, poly_product(poly_power(square, 3), poly_product(step, step)))
        self.assertEqual([each.degree for each in led_equation(one, square)], [6, 4, 2, 0])
        self.assertEqual(mean_over(one, inner, square).terms, {(2, 0, 0): 2, (0, 2, 0): 2, (0, 0, 2): 2})
        self.assertEqual(layer_of(mean_over(one, inner, level_poly(5, 3, 0, 1)), 0).wide, 3)


if __name__ == "__main__":
    unittest.main()
