"""Point [143], unswayed/deedtexts.py."""

import itertools
import unittest

from tests.test_live import NO_DEEDS, SWAP
from tests.tools import NO_NUMBERS, NO_OBJECTS, ToolCase, many_houses, some_table, table
from unswayed.deedtexts import deed_of_text, deed_text
from unswayed.tables import Table, plain


class DeedTextTest(ToolCase):
    def test_many_deeds(self):
        for name, one in many_houses().items():
            singular = Table(one.prime, one.wide, one.wide, [[0] * one.wide] * one.wide)
            drawn = some_table(one.prime, one.wide, one.wide, name)
            for word, each in itertools.product(("put", "turn"), one.tables[:4] + (singular, drawn)):
                text = self.unchanged(deed_text, (word, each))
                self.assertEqual(text, word + " " + " / ".join(" ".join(str(n) for n in line) for line in each.lines))
                self.assertEqual(self.unchanged(deed_of_text, one.prime, one.wide, text), (word, each), name)
                self.assertIsInstance(deed_of_text(one.prime, one.wide, text), tuple)
        for spot in (0, 1, 9, 10, 47, 999999999, 10 ** 9):
            self.assertEqual(deed_text(("take", spot)), f"take {spot}")
            self.assertEqual(deed_of_text(97, 3, f"take {spot}"), ("take", spot))

    def test_by_hand(self):
        self.assertEqual(deed_text(deed=("put", table(5, [1, 0], [2, 1]))), "put 1 0 / 2 1")
        self.assertEqual(deed_text(("turn", table(5, [6]))), "turn 1")
        self.assertEqual(deed_text(("take", 3)), "take 3")
        self.assertEqual(deed_of_text(prime=5, wide=2, text="put 1 0 / 2 1"), ("put", table(5, [1, 0], [2, 1])))
        self.assertEqual(deed_of_text(7, 2, "put 1 0 / 2 1"), ("put", table(7, [1, 0], [2, 1])))
        self.assertEqual(deed_of_text(97, 1, "turn 96"), ("turn", table(97, [96])))

    def test_bad_deeds(self):
        for thing in NO_DEEDS:
            self.refused(("BadDeed",), deed_text, thing)
        wrong = (
            ("put", Table(5, 2, 3, [[1, 0, 0], [0, 1, 0]])), ("turn", Table(5, 0, 0, [])), ("put", plain(5, 4)), ("turn", plain(5, 60)),
            ("take", -1), ("take", 10 ** 9 + 1), ("take", 10 ** 5000), ("take", -10 ** 5000))
        for deed in wrong:
            self.refused(("BadDeed",), deed_text, deed)

    def test_bad_texts(self):
        wrong = tuple(thing for thing in NO_OBJECTS if thing != "x") + (
            "", "x", "put", "put ", "take", "take ", "turn", "take x", "take -1", "take +1", "take 01", "take 00", "take 1 ", "take  1",
            " take 1", "take 1\n", "take 1 2", "take 1000000001", "take 9999999999", "take " + "1" * 5000, "take \u0661", "take \u00b2",
            "take 1.0", "Take 1", "take\t1", "undo", "put 1", "put 1 0", "put 1 0 / 0", "put 1 0 / 0 1 / 0 0", "put 1 0 / 0 5",
            "put 1 0 / 0 -1", "put 1 0 / 0 01", "put  1 0 / 0 1", "put 1 0 / 0 1 ", "put 1 0  / 0 1", "put 1 0 /0 1", "put 1 0 / 0 1\n",
            "put 1 0 / 0 " + "4" * 5000, "puts 1 0 / 0 1", "PUT 1 0 / 0 1", "take 1 0 / 0 1", "turn 3", "turn 1 0 / 0 \u0661", ("take", 1),
            ("put", SWAP), b"take 1", "put 1 0 0 / 0 1 0 / 0 0 1", "turn1 0 / 0 1", "\nput 1 0 / 0 1", "put\u00a01 0 / 0 1")
        for text in wrong:
            self.refused(("BadText", 0), deed_of_text, 5, 2, text)
        self.assertEqual(deed_of_text(5, 1, "put 1"), ("put", table(5, [1])))

    def test_errors_in_their_sequence(self):
        for prime in NO_NUMBERS + (0, 1, 4, 101):
            self.refused(("BadPrime",), deed_of_text, prime, None, None)
        for wide in NO_NUMBERS + (0, 4, -1):
            self.refused(("BadNumber", "wide"), deed_of_text, 5, wide, None)


if __name__ == "__main__":
    unittest.main()
