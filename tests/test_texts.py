"""Point [143], unswayed/texts.py."""

import unittest

from tests.tools import (
    NO_OBJECTS, ToolCase, house, letters, many_houses, signed, some_poly, trivial)
from unswayed.houses import House
from unswayed.polys import Poly, constant
from unswayed.tables import plain
from unswayed.texts import house_of_text, house_text, poly_of_text, poly_text

H = house(5, [[4, 0], [0, 4]])
SIGNED = house(5, [[0, 1], [1, 0]], [[4, 0], [0, 1]])
TEXT = "house 5 2\n1 0 / 0 1\n4 0 / 0 4"
NO_TEXTS = tuple(thing for thing in NO_OBJECTS if thing != "x") + (b"house 5 2", ["house 5 2"], 5)


class HouseTextTest(ToolCase):
    def test_many_houses(self):
        for name, one in many_houses().items():
            text = self.unchanged(house_text, one)
            lines = text.split("\n")
            self.assertEqual(lines[0], f"house {one.prime} {one.wide}")
            self.assertEqual(len(lines), one.size + 1, name)
            for line, each in zip(lines[1:], one.tables):
                read = [[int(word) for word in part.split(" ")] for part in line.split(" / ")]
                self.assertEqual(tuple(map(tuple, read)), each.lines)
                self.assertEqual(line, " / ".join(" ".join(map(str, numbers)) for numbers in each.lines))
            self.assertEqual(self.unchanged(house_of_text, text), one, name)

    def test_by_hand(self):
        self.assertEqual(house_text(house=H), TEXT)
        self.assertEqual(house_of_text(text=TEXT), H)
        self.assertEqual(house_text(trivial(2, 1)), "house 2 1\n1")
        self.assertEqual(house_text(house(97, [[96]])), "house 97 1\n1\n96")
        for thing in NO_OBJECTS + (plain(5, 2),):
            self.refused(("BadHouse", None), house_text, thing)

    def test_first_lines(self):
        body = TEXT[len("house 5 2"):]
        wrong = (
            "house 5", "house", "", "House 5 2", "house 5 2 ", " house 5 2", "house  5 2", "house 5  2", "house 05 2", "house 5 02",
            "house +5 2", "house -5 2", "house 6 2", "house 1 2", "house 0 2", "house 101 2", "house 5 0", "house 5 4", "house 5 -1",
            "house 5 2 1", "house 5\t2", "poly 5 2", "live 5 2", "house 5 two", "house 5 2\r", "house five 2", "house 5.0 2",
            "house \u0665 2", "house 5 \u00b2", "house " + "1" * 5000 + " 2", "house 5 " + "2" * 5000, "house\u00a05 2", "house 5 2\x00")
        for line in wrong:
            self.refused(("BadText", 0), house_of_text, line + body)
            self.refused(("BadText", 0), house_of_text, line)
        for thing in NO_TEXTS:
            self.refused(("BadText", 0), house_of_text, thing)
        self.refused(("BadText", 0), house_of_text, "\n" + TEXT)

    def test_lines_of_tables(self):
        wrong = (
            "", " ", "1 0", "1 0 / 0", "1 0 / 0 1 / 0 0", "1 0 0 1", "1 0 /0 1", "1 0/ 0 1", "1 0  / 0 1", "1 0 /  0 1", "1  0 / 0 1",
            " 1 0 / 0 1", "1 0 / 0 1 ", "1 0 / 0 5", "1 0 / 0 -1", "1 0 / 0 +1", "1 0 / 0 01", "1 0 / 0 x", "1 0 / 00 1", "1 0 | 0 1",
            "1 0 / 0 1\r", "1\t0 / 0 1", "1 0 / 0 \u0661", "1 0 / 0 \u00b9", "1 0 / 0 " + "1" * 5000, "/", "1 0 / 0 1.0", "1 0\\0 1")
        for line in wrong:
            self.refused(("BadText", 1), house_of_text, "house 5 2\n" + line + "\n4 0 / 0 4")
            self.refused(("BadText", 2), house_of_text, "house 5 2\n1 0 / 0 1\n" + line)
            self.refused(("BadText", 2), house_of_text, "house 5 2\n1 0 / 0 1\n" + line + "\n" + line)
        # The next line must come behind the one ahead of it.
        self.refused(("BadText", 2), house_of_text, "house 5 2\n4 0 / 0 4\n1 0 / 0 1")
        self.refused(("BadText", 2), house_of_text, "house 5 2\n1 0 / 0 1\n1 0 / 0 1\n4 0 / 0 4")
        self.refused(("BadText", 3), house_of_text, TEXT + "\n4 0 / 0 4")
        self.refused(("BadText", 3), house_of_text, TEXT + "\n")
        self.refused(("BadText", 4), house_of_text, TEXT + "\n4 0 / 1 4\n4 0 / 1 4")
        self.refused(("BadText", 1), house_of_text, "house 5 2\n")
        self.refused(("BadText", 1), house_of_text, "house 5 2\n\n1 0 / 0 1")
        # Numbers are compared, not texts: 9 is below 10.
        self.assertEqual(house_of_text("house 11 1\n1\n10"), house(11, [[10]]))
        self.assertEqual(house_of_text(house_text(house(19, [[7]]))), house(19, [[7]]))
        self.refused(("BadText", 3), house_of_text, "house 19 1\n1\n11\n7")

    def test_lots_that_are_no_house(self):
        self.refused(("BadText", 1), house_of_text, "house 5 2")
        self.refused(("BadText", 2), house_of_text, "house 5 2\n4 0 / 0 4")
        self.refused(("BadText", 2), house_of_text, "house 5 2\n0 0 / 0 0")
        self.refused(("BadText", 3), house_of_text, "house 5 2\n0 0 / 0 0\n1 0 / 0 1")
        self.refused(("BadText", 3), house_of_text, "house 5 2\n1 0 / 0 1\n2 0 / 0 2")
        self.refused(("BadText", 4), house_of_text, TEXT + "\n4 0 / 1 4")
        for name, one in many_houses().items():
            lines = house_text(one).split("\n")
            if one.size > 1:
                for at in (1, one.size // 2 + 1, one.size):
                    less = lines[:at] + lines[at + 1:]
                    if one.size > 2 or at == one.tables.index(plain(one.prime, one.wide)) + 1:
                        self.refused(("BadText", len(less)), house_of_text, "\n".join(less))
        # More than 48 tables, closed under products as they may be.
        scalars = ["house 53 1"] + [str(at) for at in range(1, 53)]
        self.refused(("BadText", 53), house_of_text, "\n".join(scalars))
        self.refused(("BadText", 60), house_of_text, "\n".join(scalars + [str(at) for at in range(53, 60)]).replace(
            "house 53 1", "house 97 1"))
        self.refused(("BadText", 10001), house_of_text, "\n".join(["house 97 3"] + [
            f"0 0 0 / 0 {at // 1000 % 10} {at // 100 % 10} / {at // 10 % 10} 1 {at % 10}" for at in range(10000)]))
        self.assertEqual(house_of_text(house_text(signed(97))).size, 48)


class PolyTextTest(ToolCase):
    def test_many_polys(self):
        for prime in (2, 3, 5, 7, 11, 97):
            for wide in (1, 2, 3, 7, 12):
                for seed, degree in enumerate((0, 1, 4, 30, 120)):
                    poly = some_poly(prime, wide, degree, seed, 9)
                    text = self.unchanged(poly_text, poly)
                    parts = text.split(" : ")
                    self.assertEqual(parts[0], f"poly {prime} {wide}")
                    self.assertEqual(parts[1:], [" ".join(map(str, (number,) + row)) for row, number in poly.terms.items()])
                    self.assertEqual(self.unchanged(poly_of_text, text), poly)

    def test_by_hand(self):
        poly = Poly(5, 2, {(0, 2): 3, (1, 1): 1})
        self.assertEqual(poly_text(poly=poly), "poly 5 2 : 3 0 2 : 1 1 1")
        self.assertEqual(poly_of_text(text="poly 5 2 : 3 0 2 : 1 1 1"), poly)
        self.assertEqual(poly_text(Poly(97, 3, {})), "poly 97 3")
        self.assertEqual(poly_of_text("poly 97 3"), Poly(97, 3, {}))
        self.assertEqual(poly_text(constant(2, 12, 1)), "poly 2 12 : 1" + " 0" * 12)
        self.assertEqual(poly_of_text("poly 2 12 : 1" + " 10" * 12).degree, 120)
        self.assertEqual(poly_of_text("poly 2 1 : 1 9 : 1 10 : 1 120").terms, {(9,): 1, (10,): 1, (120,): 1})
        for thing in NO_OBJECTS + (H, plain(5, 2)):
            self.refused(("BadPoly",), poly_text, thing)

    def test_wrong_texts(self):
        wrong = NO_TEXTS + (
            "", "poly", "poly 5", "poly 5 2 ", " poly 5 2", "poly  5 2", "poly 5 2 :", "poly 5 2 : ", "poly 5 2: 3 0 2", "poly 5 2 :3 0 2",
            "poly 5 2 : 3 0 2 ", "poly 5 2 : 3 0 2 :", "poly 5 2 : 3 0 2 : : 1 1 1", "poly 5 2 : 3  0 2", "poly 5 2  : 3 0 2", "poly 5 2 3 0 2",
            "poly 5 2 : 0 0 2", "poly 5 2 : 5 0 2", "poly 5 2 : -1 0 2", "poly 5 2 : 03 0 2", "poly 5 2 : 3 0 02", "poly 5 2 : +3 0 2",
            "poly 5 2 : 3 0", "poly 5 2 : 3 0 2 1", "poly 5 2 : 3", "poly 5 2 : 1 1 1 : 3 0 2", "poly 5 2 : 3 0 2 : 1 0 2",
            "poly 5 2 : 1 60 61", "poly 5 2 : 1 0 121", "poly 5 2 : 1 -1 2", "poly 5 2 : x 0 2", "poly 6 2", "poly 05 2", "poly 5 0", "poly 5 13",
            "poly 5 02", "poly 101 2", "Poly 5 2", "house 5 2", "poly 5 2\n", "poly 5 2\n: 3 0 2", "\npoly 5 2", "poly 5 2 : 3 0 2\n",
            "poly 5 2 : 3 0 2\r", "poly 5 2 : 3\t0 2", "poly 5 2 : 3 0 \u0662", "poly 5 2 : 3 0 \u00b2", "poly 5 2 : 3 0 " + "2" * 5000,
            "poly 5 2 : " + "3" * 5000 + " 0 2", "poly 5 2 : 3.0 0 2", "poly\u00a05 2", "poly 5 2 : 3 0 2 : 1 1 1 :", ": 3 0 2", "poly 5 1 : 1 10 : 1 9",
            "poly 2 12 : 1" + " 10" * 11 + " 11", "poly 2 12 : 1" + " 0" * 11, "poly 2 12 : 1" + " 0" * 13)
        for text in wrong:
            self.refused(("BadText", 0), poly_of_text, text)
        for at in range(len("poly 5 2 : 3 0 2 : 1 1 1")):
            text = "poly 5 2 : 3 0 2 : 1 1 1"
            for sign in ("", " ", "\n", "-", "x", ":"):
                changed = text[:at] + sign + text[at + 1:]
                if changed != text and changed not in ("poly 5 2 : 3 0 2 : 1 1 1",):
                    self.refused(("BadText", 0), poly_of_text, changed)

    def test_letters(self):
        for wide in range(1, 13):
            for poly in letters(3, wide):
                self.assertEqual(poly_of_text(poly_text(poly)), poly)
        self.assertEqual(House(5, 2, []), house_of_text("house 5 2\n1 0 / 0 1"))


if __name__ == "__main__":
    unittest.main()
