"""Points [75] and [76], unswayed/mirrors.py."""

import random
import unittest

from tests.tools import (
    NO_NUMBERS, NO_OBJECTS, ToolCase, drawn_table, form_poly, house, houses_beside, is_slow_mirror, letters,
    many_houses, slow_determinant, slow_led, slow_moved, slow_order, slow_times, slow_undone, slow_value, some_points,
    table, trivial)
from unswayed.houses import House, house_beside, house_led, is_mild
from unswayed.leadings import led, moved
from unswayed.mirrors import (
    is_mirror, is_mirrored, mirror_classes, mirror_form, mirror_house, mirror_number, mirror_table, mirror_way,
    mirrors_of, wall_product, walls_of)
from unswayed.polys import Poly, constant, poly_product, poly_scaled, poly_sum
from unswayed.solving import determinant, inverse
from unswayed.tables import Table, plain

EXCHANGE = table(5, [0, 1], [1, 0])
SHEAR = table(5, [1, 1], [0, 1])


def some_mirrors():
    """Mirrors of 1 to 12 lines, with their forms, ways and numbers."""
    found = []
    chance = random.Random(5)
    for prime, wide in ((2, 2), (3, 1), (3, 3), (5, 2), (7, 4), (97, 2), (5, 12), (2, 12), (13, 7), (97, 12)):
        while len(found) == 0 or len(found[-1][1]) != wide or found[-1][0].prime != prime:
            form = [0] * (wide // 3) + [1] + [chance.randrange(prime) for _ in range(wide - wide // 3 - 1)]
            way = [0] * (wide // 2) + [1] + [chance.randrange(prime) for _ in range(wide - wide // 2 - 1)]
            number = chance.randrange(1, prime)
            if (1 + number * sum(x * y for x, y in zip(form, way))) % prime:
                lines = [[int(i == j) + number * way[i] * form[j] for j in range(wide)] for i in range(wide)]
                found.append((table(prime, *lines), form, way, number))
    return found


class MirrorTest(ToolCase):
    def test_form_way_and_number(self):
        found = some_mirrors()
        self.assertEqual(len(found), 10)
        for each, form, way, number in found:
            self.assertIs(is_mirror(each), True)
            self.assertEqual(self.unchanged(mirror_form, each), form_poly(each.prime, form))
            self.assertEqual(self.unchanged(mirror_way, each), tuple(way))
            self.assertIsInstance(mirror_way(each), tuple)
            self.assertEqual(mirror_number(each), number)
            self.assertEqual(self.unchanged(mirror_table, form_poly(each.prime, form), way, number), each)
            told = 1 + number * sum(x * y for x, y in zip(form, way))
            self.assertEqual((determinant(each) - told) % each.prime, 0)

    def test_mirrors_of_houses(self):
        seen = 0
        for name, one in many_houses().items():
            found = self.unchanged(mirrors_of, one)
            self.assertEqual(found, [each for each in one.tables if is_slow_mirror(each)], name)
            for each in found:
                form, way, number = mirror_form(each), mirror_way(each), mirror_number(each)
                seen += 1
                numbers = [form.terms.get(row, 0) for row in plain(one.prime, one.wide).lines]
                self.assertEqual([number for number in numbers if number][0], 1)
                self.assertEqual([number for number in way if number][0], 1)
                self.assertTrue(1 <= number < one.prime)
                for point in some_points(one, name, 3):
                    goal = [x + number * slow_value(form, point) * y for x, y in zip(point, way)]
                    self.assertEqual(slow_moved(each, point), tuple(x % one.prime for x in goal), name)
                self.assertEqual(mirror_table(form=form, way=way, number=number), each)
                told = (1 + number * slow_value(form, way)) % one.prime
                self.assertEqual(slow_determinant(each.lines) % one.prime, told)
                orders = [e for e in range(1, one.prime) if pow(told, e, one.prime) == 1]
                self.assertEqual(slow_order(each), one.prime if told == 1 else orders[0], name)
                self.assertFalse(told == 1 and is_mild(one), name)
                self.check_led(each, drawn_table(one.prime, one.wide, name + "?"))
        self.assertGreater(seen, 100)

    def check_led(self, each, t):
        back = inverse(t)
        other = slow_times(slow_times(t, each), back)
        self.assertTrue(is_mirror(other))
        form, way = led(mirror_form(each), back), moved(t, mirror_way(each))
        prime = each.prime
        self.assertTrue(any(poly_scaled(form, n) == mirror_form(other) for n in range(1, prime)))
        self.assertTrue(any(tuple(n * x % prime for x in way) == mirror_way(other) for n in range(1, prime)))

    def test_any_value(self):
        wrong = NO_OBJECTS + (
            plain(5, 2), plain(5, 0), table(5, [0, 4], [1, 0]), Table(5, 2, 3, [[1, 0, 0], [0, 2, 0]]),
            table(5, [0, 0], [0, 1]), table(5, [1, 1], [0, 0]), "mirror", [EXCHANGE], plain(5, 13),
            table(5, [2, 0], [0, 2]), table(5, [0]), table(5, [1]),
            Table(5, 13, 13, [[int(i == j) * (1 + int(i == 0)) for j in range(13)] for i in range(13)]))
        for thing in wrong:
            self.assertIs(is_mirror(thing), False)
        for thing in (EXCHANGE, SHEAR, table(5, [4]), table(2, [1, 1], [0, 1]), table(5, [3, 0], [0, 1])):
            self.assertIs(is_mirror(thing=thing), True)
        for call in (mirror_form, mirror_way, mirror_number):
            for thing in wrong:
                self.refused(("BadTable",), call, thing)

    def test_by_hand(self):
        self.assertEqual(mirror_form(table=EXCHANGE).terms, {(0, 1): 4, (1, 0): 1})
        self.assertEqual(mirror_way(table=EXCHANGE), (1, 4))
        self.assertEqual(mirror_number(table=EXCHANGE), 4)
        self.assertEqual(mirror_form(SHEAR).terms, {(0, 1): 1})
        self.assertEqual((mirror_way(SHEAR), mirror_number(SHEAR)), ((1, 0), 1))
        self.assertEqual((mirror_form(table(7, [3])).terms, mirror_way(table(7, [3]))), ({(1,): 1}, (1,)))
        self.assertEqual(mirror_number(table(7, [3])), 2)

    def test_table_of_a_form_a_way_and_a_number(self):
        x, y = letters(5, 2)
        self.assertEqual(mirror_table(poly_sum(x, poly_scaled(y, 4)), [1, -1], 4), EXCHANGE)
        self.assertEqual(mirror_table(poly_scaled(y, 2), (6, 5), 3), SHEAR)
        self.assertEqual(mirror_table(y, [2, 0], -2), SHEAR)
        self.assertEqual(mirror_table(x, [1, 0], 2).lines, ((3, 0), (0, 1)))
        for thing in NO_OBJECTS:
            self.refused(("BadPoly",), mirror_table, thing, None, None)
        for form in (constant(5, 2, 1), constant(5, 2, 0), poly_product(x, x), poly_sum(x, constant(5, 2, 1)),
                     poly_sum(poly_product(x, y), x)):
            self.refused(("BadPoly",), mirror_table, form, None, None)
        for way in (None, [1], [1, 0, 0], [0, 0], [5, -10], [True, 0], [1.0, 0], "ab", {0: 1, 1: 0}):
            self.refused(("BadPoint",), mirror_table, x, way, None)
        for number in (0, 5, -10) + NO_NUMBERS:
            self.refused(("BadNumber", "number"), mirror_table, x, [1, 0], number)
        for form, way, number in ((x, [1, 0], 4), (x, [2, 3], 2), (poly_sum(x, y), [1, 1], 2)):
            self.refused(("BadTable",), mirror_table, form, way, number)
        self.refused(("BadTable",), mirror_table, letters(2, 1)[0], [1], 1)


class WallsTest(ToolCase):
    def tables_of_wall(self, one, form):
        return [each for each in one.tables if each == plain(one.prime, one.wide) or (
            is_slow_mirror(each) and mirror_form(each) == form)]

    def test_second_way(self):
        for name, one in many_houses().items():
            walls = self.unchanged(walls_of, one)
            self.assertIsInstance(walls, list)
            forms = [list(form.terms.items()) for form, _, _ in walls]
            self.assertEqual(forms, sorted(forms))
            self.assertEqual(
                sorted({tuple(mirror_form(each).terms.items()) for each in mirrors_of(one)}),
                [tuple(items) for items in forms], name)
            for wall in walls:
                self.assertIsInstance(wall, tuple)
                form, turns, shears = wall
                tables = self.tables_of_wall(one, form)
                numbers = [slow_determinant(each.lines) % one.prime for each in tables]
                self.assertEqual((len(set(numbers)), numbers.count(1)), (turns, shears), name)
                self.assertEqual(len(tables), turns * shears)
                self.assertTrue(all(slow_times(a, b) in tables for a in tables for b in tables))
                power = 1
                while power < shears:
                    power *= one.prime
                self.assertEqual(power, shears)
                self.check_led_walls(one, walls, form, turns, shears)

    def check_led_walls(self, one, walls, form, turns, shears):
        for t in one.few:
            image = slow_led(form, t)
            self.assertEqual(len([1 for other, a, b in walls if (a, b) == (turns, shears) and any(
                poly_scaled(other, n) == image for n in range(1, one.prime))]), 1)

    def test_product(self):
        for name, one in many_houses().items():
            total = constant(one.prime, one.wide, 1)
            for form, turns, shears in walls_of(one):
                weight = turns - 1
                while shears > 1:
                    shears //= one.prime
                    weight += one.prime - 1
                for _ in range(weight):
                    total = poly_product(total, form)
            self.assertEqual(self.unchanged(wall_product, one), total, name)
            if is_mild(one):
                self.assertEqual(total.degree, len(mirrors_of(one)))
            for g in mirror_house(one).few:
                self.assertEqual(poly_scaled(slow_led(total, g), slow_determinant(g.lines)), total, name)

    def test_by_hand(self):
        one = house(5, [[0, 1], [1, 0]], [[4, 0], [0, 1]])
        self.assertEqual([(form.terms, turns, shears) for form, turns, shears in walls_of(house=one)], [
            ({(0, 1): 1}, 2, 1), ({(0, 1): 1, (1, 0): 1}, 2, 1), ({(0, 1): 4, (1, 0): 1}, 2, 1), ({(1, 0): 1}, 2, 1)])
        self.assertEqual(walls_of(trivial(5, 3)), [])
        self.assertEqual(wall_product(trivial(5, 3)), constant(5, 3, 1))
        planes = house(2, [[1, 0, 1], [0, 1, 0], [0, 0, 1]], [[1, 0, 0], [0, 1, 1], [0, 0, 1]])
        self.assertEqual([(form.terms, a, b) for form, a, b in walls_of(planes)], [({(0, 0, 1): 1}, 1, 4)])
        self.assertEqual(wall_product(house=planes).terms, {(0, 0, 2): 1})
        self.assertEqual(wall_product(house(7, [[3]])).terms, {(5,): 1})
        self.assertEqual(wall_product(house(47, [[1, 1], [0, 1]])).terms, {(0, 46): 1})

    def test_wrong_inputs(self):
        for call in (mirrors_of, walls_of, wall_product, mirror_house, is_mirrored, mirror_classes):
            for thing in NO_OBJECTS + (EXCHANGE,):
                self.refused(("BadHouse", None), call, thing)


class MirrorHouseTest(ToolCase):
    def test_products_of_mirrors(self):
        for name, one in many_houses().items():
            mirrors = [each for each in one.tables if is_slow_mirror(each)]
            found = self.unchanged(mirror_house, one)
            self.assertEqual(found, House(one.prime, one.wide, mirrors), name)
            self.assertIs(is_mirrored(one), found.size == one.size, name)
            self.assertEqual(mirror_house(found), found)
            self.assertEqual(walls_of(found), walls_of(one), name)
            for t in one.few:
                self.assertEqual(house_led(found, t), found)
            t = drawn_table(one.prime, one.wide, name + "*")
            self.assertEqual(mirror_house(house_led(one, t)), house_led(found, t), name)

    def test_beside(self):
        ones = [house(5, [[4]]), house(5, [[2]]), trivial(5, 1)]
        twos = [house(5, [[4, 0], [0, 4]]), house(5, [[0, 1], [1, 0]]), house(5, [[1, 1], [0, 1]])]
        for one in ones:
            for two in twos + ones:
                self.assertEqual(mirror_house(house_beside(one, two)), house_beside(mirror_house(one), mirror_house(two)))

    def test_by_hand(self):
        self.assertIs(is_mirrored(house=trivial(2, 3)), True)
        self.assertIs(is_mirrored(house(5, [[4, 0], [0, 4]])), False)
        self.assertIs(is_mirrored(house(5, [[4]])), True)
        self.assertEqual(mirror_house(house=house(5, [[4, 0], [0, 4]])), trivial(5, 2))
        self.assertIs(is_mirrored(houses_beside()["scale and round 7 3"]), False)
        self.assertEqual(mirror_house(houses_beside()["scale and round 7 3"]).size, 3)

    def test_classes(self):
        for name, one in many_houses().items():
            found = self.unchanged(mirror_classes, one)
            self.assertTrue(all(isinstance(each, list) for each in found))
            lines = [[each.lines for each in lot] for lot in found]
            self.assertEqual(lines, sorted(sorted(lot) for lot in lines))
            self.assertEqual(sorted(sum(lines, [])), [each.lines for each in mirrors_of(one)], name)
            backs = [slow_undone(t) for t in one.tables]
            for lot in found:
                for each in (lot[0], lot[-1]):
                    there = {slow_times(slow_times(t, each), back).lines for t, back in zip(one.tables, backs)}
                    self.assertEqual(there, {other.lines for other in lot}, name)

    def test_classes_by_hand(self):
        one = house(5, [[0, 1], [1, 0]], [[4, 0], [0, 1]])
        self.assertEqual([[each.lines for each in lot] for lot in mirror_classes(house=one)], [
            [((0, 1), (1, 0)), ((0, 4), (4, 0))], [((1, 0), (0, 4)), ((4, 0), (0, 1))]])
        self.assertEqual(mirror_classes(trivial(3, 2)), [])
        self.assertEqual([len(lot) for lot in mirror_classes(house(7, [[3]]))], [1] * 5)
        self.assertEqual(mirror_form(table(3, [2])), Poly(3, 1, {(1,): 1}))


if __name__ == "__main__":
    unittest.main()
