"""Point [3]: where several results are right, equal arguments give an equal one."""

import unittest

from tests.tools import ToolCase, drawn_table, many_houses, mild_houses
from unswayed.changes import change
from unswayed.equations import equations_of, followed
from unswayed.familylots import family_told
from unswayed.freelots import free_lot
from unswayed.houses import House, house_led
from unswayed.inner import inner_houses
from unswayed.live import LiveHouse
from unswayed.lotparts import lot_parting
from unswayed.makers import makers_of, written
from unswayed.means import mean
from unswayed.ownpolys import own_poly
from unswayed.polys import Poly, letter, poly_power, poly_product, poly_sum
from unswayed.powersums import as_power_sums, power_makers
from unswayed.tables import Table


def table_again(each):
    """An equal Table, made of other numbers."""
    return Table(each.prime, each.tall, each.wide, [[number - each.prime for number in line] for line in each.lines])


def house_again(one):
    """An equal House, made of all tables, the last one first."""
    return House(one.prime, one.wide, tuple(table_again(each) for each in one.tables[::-1]))


def poly_again(poly):
    """An equal Poly, made of its terms in another sequence."""
    return Poly(poly.prime, poly.wide, {row: number + poly.prime for row, number in list(poly.terms.items())[::-1]})


def lot_again(polys):
    return tuple(poly_again(poly) for poly in polys)


class OpenTest(ToolCase):
    def test_makers_and_equations(self):
        for name, one in mild_houses().items():
            other, lot = house_again(one), free_lot(one)
            there = lot_again(lot)
            self.assertEqual(one, other)
            makers = makers_of(one, lot)
            self.assertEqual(makers_of(other, there), makers, name)
            if len(makers) <= 12:
                poly = poly_sum(makers[-1], mean(one, poly_power(letter(one.prime, one.wide, 0), 6)))
                self.assertEqual(written(other, there, lot_again(makers), poly_again(poly)), written(one, lot, makers, poly), name)
                several = equations_of(one, lot, makers)
                self.assertEqual(equations_of(other, there, lot_again(makers)), several, name)
                if several:
                    goal = poly_product(several[0], several[-1])
                    self.assertEqual(followed(other, there, lot_again(makers), lot_again(several), poly_again(goal)),
                                     followed(one, lot, makers, several, goal), name)

    def test_power_sums(self):
        for name, one in mild_houses().items():
            other = house_again(one)
            poly = mean(one, poly_power(letter(one.prime, one.wide, 0), min(one.prime - 1, 4)))
            self.assertEqual(as_power_sums(other, poly_again(poly)), as_power_sums(one, poly), name)
            if one.prime > one.size:
                lot = free_lot(one)
                self.assertEqual(power_makers(other, lot_again(lot)), power_makers(one, lot), name)

    def test_inner_houses_and_changes(self):
        for name, one in many_houses().items():
            other = house_again(one)
            led_there = house_led(one, drawn_table(one.prime, one.wide, name + "open"))
            self.assertEqual(change(other, house_again(led_there)), change(one, led_there), name)
            if one.size <= 24:
                for inner in inner_houses(one)[:4]:
                    self.assertEqual(own_poly(other, house_again(inner)), own_poly(one, inner), name)
                    self.assertEqual(lot_parting(house_again(inner), other), lot_parting(inner, one), name)

    def test_live_houses(self):
        for name, one in many_houses().items():
            told = []
            for each in (one, house_again(one)):
                live = LiveHouse(one.prime, one.wide)
                for table in each.tables[::-1]:
                    live.do(("put", table))
                live.mark("a")
                live.do(("turn", drawn_table(one.prime, one.wide, name + "live")))
                told.append(live.since("a"))
            self.assertEqual(told[0], told[1], name)

    def test_family_lots(self):
        for word in (("wreath", 5, 2, 4, 4), ("twin", 5, 2), ("weights", 7, 6, (1, 5, 2)), ("even", 3, 3)):
            prime, wide = word[1], 3 if word[0] in ("weights", "even") else 2
            poly = Poly(prime, wide, {(0,) * wide: 2})
            self.assertEqual(family_told(word, poly_again(poly)), family_told(word, poly))


if __name__ == "__main__":
    unittest.main()
