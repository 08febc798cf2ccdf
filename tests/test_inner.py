"""Point [125], unswayed/inner.py."""

import itertools
import unittest

from tests.tools import (
    NO_OBJECTS, ToolCase, drawn_table, house, letters, many_houses, signed, slow_led, slow_moved, slow_times,
    slow_undone, small_houses, some_points, some_poly, table, trivial)
from unswayed.degrees import unswayed_of
from unswayed.houses import House, house_led
from unswayed.inner import (
    common_house, index_of, inner_classes, inner_houses, is_inner, joined_house, keeper, point_keeper, share_tables)
from unswayed.leadings import led, led_lot, moved, orbit_of
from unswayed.polys import Poly, poly_sum
from unswayed.solving import inverse
from unswayed.tables import plain

SIGNED = house(5, [[0, 1], [1, 0]], [[4, 0], [0, 1]])
H = house(5, [[4, 0], [0, 4]])
PAIRED = ("is_inner", is_inner), ("common_house", common_house), ("joined_house", joined_house)


def lines_of(one):
    return tuple(each.lines for each in one.tables)


def slow_inner(one):
    """All lots of tables that hold plain and are closed, as tuples of lines; for houses of few tables."""
    tables = list(one.tables)
    start = tables.index(plain(one.prime, one.wide))
    products = [[tables.index(slow_times(a, b)) for b in tables] for a in tables]
    found = []
    rest = [at for at in range(len(tables)) if at != start]
    for many in range(len(tables)):
        if len(tables) % (many + 1) == 0:
            for pick in itertools.combinations(rest, many):
                lot = {start, *pick}
                if all(products[a][b] in lot for a in lot for b in lot):
                    found.append(tuple(tables[at].lines for at in sorted(lot)))
    return found


def some_inner(one):
    """Some inner houses: of one table, of two, plain and all."""
    found = [House(one.prime, one.wide, []), one]
    for at in range(0, one.size, max(1, one.size // 4)):
        found.append(House(one.prime, one.wide, [one.tables[at]]))
        found.append(House(one.prime, one.wide, [one.tables[at], one.tables[-1]]))
    return found


class TwoHousesTest(ToolCase):
    def test_lots_of_tables(self):
        for name, one in many_houses().items():
            houses = some_inner(one) + [house_led(one, drawn_table(one.prime, one.wide, name + "2"))]
            for a, b in itertools.product(houses[:6], houses):
                first, second = set(lines_of(a)), set(lines_of(b))
                self.assertIs(is_inner(a, b), second <= first, name)
                common = self.unchanged(common_house, a, b)
                self.assertEqual(set(lines_of(common)), first & second, name)
                if first | second <= set(lines_of(one)):
                    self.assertEqual(joined_house(a, b), House(one.prime, one.wide, a.tables + b.tables), name)

    def test_48_tables_and_more(self):
        one = signed(5)
        other = house(5, [[2, 0, 0], [0, 2, 0], [0, 0, 2]])
        self.refused(("TooMany", 48), joined_house, one, other)
        self.assertEqual(joined_house(one=one, other=trivial(5, 3)), one)
        parts = house(5, [[0, 1, 0], [1, 0, 0], [0, 0, 1]]), house(5, [[4, 0, 0], [0, 1, 0], [0, 0, 1]])
        cycle = house(5, [[0, 1, 0], [0, 0, 1], [1, 0, 0]])
        self.assertEqual(joined_house(joined_house(*parts), cycle), one)
        self.assertIs(is_inner(house=one, other=cycle), True)
        self.assertEqual(common_house(one=one, other=other).size, 2)

    def test_errors_of_two_houses(self):
        for _, call in PAIRED:
            for thing in NO_OBJECTS:
                self.refused(("BadHouse", None), call, thing, trivial(5, 2))
                self.refused(("BadHouse", None), call, trivial(5, 2), thing)
            self.refused(("BadHouse", "prime"), call, trivial(5, 2), trivial(3, 3))
            self.refused(("BadHouse", "wide"), call, trivial(5, 2), trivial(5, 3))


class KeeperTest(ToolCase):
    def test_polys(self):
        for name, one in many_houses().items():
            for seed in range(3):
                poly = some_poly(one.prime, one.wide, 3, seed, 2)
                for each in some_inner(one)[2:4]:
                    poly = poly_sum(poly, (unswayed_of(each, 2) + [poly])[0])
                found = self.unchanged(keeper, one, poly)
                tables = [each for each in one.tables if slow_led(poly, each) == poly]
                self.assertEqual(found, House(one.prime, one.wide, tables), name)
                self.assertEqual(found.size, len(tables))
                self.assertEqual(len(led_lot(one, poly)), index_of(one, found), name)
                for t in one.few:
                    self.assertEqual(keeper(one, led(poly, t)), house_led(found, inverse(t)), name)

    def test_points(self):
        for name, one in many_houses().items():
            for point in some_points(one, name, 2) + [(0,) * one.wide, (1,) + (0,) * (one.wide - 1)]:
                found = self.unchanged(point_keeper, one, point)
                tables = [each for each in one.tables if slow_moved(each, point) == point]
                self.assertEqual(lines_of(found), tuple(each.lines for each in tables), name)
                self.assertEqual(len(orbit_of(one, point)), index_of(one, found), name)
                self.assertEqual(point_keeper(one, [number - one.prime for number in point]), found)
                for t in one.few:
                    self.assertEqual(point_keeper(one, moved(t, point)), house_led(found, t), name)

    def test_by_hand_and_wrong_inputs(self):
        x, y = letters(5, 2)
        self.assertEqual(keeper(house=SIGNED, poly=x), house(5, [[1, 0], [0, 4]]))
        self.assertEqual(keeper(SIGNED, poly_sum(x, y)), house(5, [[0, 1], [1, 0]]))
        self.assertEqual(keeper(SIGNED, Poly(5, 2, {})), SIGNED)
        self.assertEqual(point_keeper(house=SIGNED, point=[1, 1]), house(5, [[0, 1], [1, 0]]))
        self.assertEqual(point_keeper(SIGNED, (0, 0)), SIGNED)
        for thing in NO_OBJECTS:
            self.refused(("BadHouse", None), keeper, thing, None)
            self.refused(("BadPoly",), keeper, SIGNED, thing)
            self.refused(("BadHouse", None), point_keeper, thing, None)
        for poly in (letters(3, 2)[0], letters(5, 3)[0]):
            self.refused(("BadPoly",), keeper, SIGNED, poly)
        for point in (None, [1], [1, 2, 3], [True, 0], [1.0, 0], "ab", {0: 1, 1: 0}):
            self.refused(("BadPoint",), point_keeper, SIGNED, point)


class InnerHousesTest(ToolCase):
    def test_second_way(self):
        for name, one in many_houses().items():
            if one.size <= 18:
                found = [lines_of(each) for each in self.unchanged(inner_houses, one)]
                self.assertEqual(found, sorted(slow_inner(one), key=lambda lot: (len(lot), lot)), name)

    def test_24_tables_and_more(self):
        special = small_houses()["special 3 2"]
        found = inner_houses(house=special)
        self.assertEqual([each.size for each in found], [1, 2] + [3] * 4 + [4] * 3 + [6] * 4 + [8, 24])
        self.assertEqual([len(lot) for lot in inner_classes(house=special)], [1, 1, 4, 3, 4, 1, 1])
        exchanges = house(5, [[0, 1, 0], [1, 0, 0], [0, 0, 1]], [[0, 1, 0], [0, 0, 1], [1, 0, 0]], [[4, 0, 0], [0, 4, 0], [0, 0, 1]])
        self.assertEqual((exchanges.size, len(inner_houses(exchanges)), len(inner_classes(exchanges))), (24, 30, 11))
        cyclic = house(97, [[pow(25, 2, 97)]])
        self.assertEqual([each.size for each in inner_houses(cyclic)], [1, 2, 3, 4, 6, 8, 12, 24])
        for call in (inner_houses, inner_classes):
            for one in (house(97, [[25]]), signed(3), house(31, [[3]]), house(29, [[1, 1], [0, 1]])):
                self.refused(("TooMany", 24), call, one)
            for thing in NO_OBJECTS:
                self.refused(("BadHouse", None), call, thing)

    def test_classes(self):
        for name, one in many_houses().items():
            if one.size <= 12:
                houses = inner_houses(one)
                lots = self.unchanged(inner_classes, one)
                self.assertEqual(sorted(lines_of(each) for lot in lots for each in lot), sorted(map(lines_of, houses)))
                places = [[houses.index(each) for each in lot] for lot in lots]
                self.assertEqual(places, sorted(sorted(lot) for lot in places), name)
                for lot in lots:
                    there = set()
                    for t in one.tables:
                        back = slow_undone(t)
                        there.add(tuple(sorted(slow_times(slow_times(t, g), back).lines for g in lot[0].tables)))
                    self.assertEqual(there, {lines_of(each) for each in lot}, name)


class ShareTest(ToolCase):
    def test_shares(self):
        for name, one in many_houses().items():
            for each in some_inner(one):
                found = self.unchanged(share_tables, one, each)
                self.assertEqual(index_of(one, each), one.size // each.size)
                self.assertEqual(len(found), index_of(one, each), name)
                first = {min(slow_times(a, g).lines for a in each.tables) for g in one.tables}
                self.assertEqual([table.lines for table in found], sorted(first), name)
                # A Poly that the inner house leaves as it is is led to one Poly by all tables of a share.
                for poly in unswayed_of(each, 2)[:1]:
                    for g in one.few:
                        self.assertEqual(len({tuple(slow_led(poly, slow_times(a, g)).terms.items()) for a in each.few}
                                             | {tuple(slow_led(poly, g).terms.items())}), 1, name)

    def test_by_hand_and_wrong_inputs(self):
        self.assertEqual(index_of(house=SIGNED, inner=H), 4)
        self.assertEqual([each.lines for each in share_tables(house=H, inner=trivial(5, 2))],
                         [((1, 0), (0, 1)), ((4, 0), (0, 4))])
        self.assertEqual(share_tables(H, H), [plain(5, 2)])
        for call in (index_of, share_tables):
            for thing in NO_OBJECTS + (table(5, [1]),):
                self.refused(("BadHouse", None), call, thing, H)
                self.refused(("BadHouse", None), call, H, thing)
            for other in (SIGNED, trivial(3, 2), trivial(5, 3), trivial(5, 1), house(5, [[2, 0], [0, 2]])):
                self.refused(("BadInner",), call, H, other)


if __name__ == "__main__":
    unittest.main()
