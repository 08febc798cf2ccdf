"""Point [144], unswayed/journals.py."""

import unittest

from tests.test_live import H, MINUS, SIGN, SIGNED, SWAP, TURN, made
from tests.tools import NO_OBJECTS, ToolCase, drawn_table, many_houses, shown, signed, telling_of
from unswayed.deedtexts import deed_text
from unswayed.houses import House
from unswayed.journals import journal_text, led_live
from unswayed.live import LiveHouse

TEXT = "live 5 2\nput 0 1 / 1 0\nput 4 0 / 0 1\nturn 1 1 / 0 1\ntake 0"


class JournalTest(ToolCase):
    def test_many_houses(self):
        for name, one in many_houses().items():
            g = drawn_table(one.prime, one.wide, name + "journal")
            deeds = [("put", each) for each in one.few] + [("turn", g)] + [("take", 0)] * (len(one.few) > 1) + [("put", one.tables[0])]
            live = LiveHouse(one.prime, one.wide)
            for deed in deeds:
                telling_of(live.do, deed)
            live.watch_point("a", (1,) * one.wide)
            live.mark("a")
            text = self.unchanged(journal_text, live)
            self.assertEqual(text.split("\n"), [f"live {one.prime} {one.wide}"] + [deed_text(deed) for deed in live.deeds()])
            again = led_live(text)
            self.assertIsInstance(again, LiveHouse)
            self.assertEqual(journal_text(again), text, name)
            self.assertEqual((again.prime, again.wide, again.standing), (live.prime, live.wide, live.standing))
            self.assertEqual((again.makers, again.house, again.deeds()), (live.makers, live.house, live.deeds()))
            self.assertEqual(shown(again.house), shown(House(one.prime, one.wide, live.makers)), name)
            self.assertEqual((again.told(), again.marks(), again.together()), ({}, [], []))

    def test_by_hand(self):
        live = made(("put", SWAP), ("put", SIGN), ("turn", TURN), ("take", 0))
        self.assertEqual(journal_text(live=live), TEXT)
        self.assertEqual(led_live(text=TEXT).house, live.house)
        live.undo()
        live.undo()
        self.assertEqual(journal_text(live), "\n".join(TEXT.split("\n")[:3]))
        self.assertEqual(led_live(journal_text(live)).house, SIGNED)
        # What was taken back is not in the journal.
        self.refused(("NothingLeft",), led_live(journal_text(live)).redo)

    def test_empty_journals(self):
        for prime, wide in ((2, 1), (5, 2), (97, 3)):
            self.assertEqual(journal_text(LiveHouse(prime, wide)), f"live {prime} {wide}")
            self.assertEqual(led_live(f"live {prime} {wide}").standing, 0)
        self.refused(("BadText", 1), led_live, "live 5 2\n")
        live = made(("put", MINUS))
        self.assertEqual(live.house, H)
        live.undo()
        self.assertEqual(journal_text(live), "live 5 2")

    def test_bad_live(self):
        for thing in NO_OBJECTS + (H, "live 5 2"):
            self.refused(("BadLive",), journal_text, thing)

    def test_first_lines(self):
        for thing in NO_OBJECTS + (b"live 5 2", ["live 5 2"]):
            self.refused(("BadText", 0), led_live, thing)
        wrong = (
            "", "live", "live 5", "live 5 ", "live 5 2 ", " live 5 2", "live  5 2", "Live 5 2", "house 5 2", "live 6 2", "live 05 2",
            "live 5 02", "live 5 0", "live 5 4", "live 101 2", "live +5 2", "live 5 2 1", "live 5 2\r", "live \u0665 2",
            "live " + "7" * 5000 + " 2", "live 5 " + "1" * 5000, "live\t5 2", "put 1")
        for line in wrong:
            self.refused(("BadText", 0), led_live, line)
            self.refused(("BadText", 0), led_live, line + "\nput 0 1 / 1 0")
        self.refused(("BadText", 0), led_live, "\n" + TEXT)

    def test_wrong_lines(self):
        wrong = (
            "", " ", "undo", "redo", "put", "put 0 1 / 1 0 ", " put 0 1 / 1 0", "put 0 1 / 1 5", "put 0 1", "take", "take -1", "take 01",
            "take x", "put 0 1 / 1 0\r", "live 5 2", "size", "take " + "1" * 5000, "put 0 1 / 1 " + "0" * 5000, "put 1", "mark a")
        # Deeds that cannot be done: no such maker, no inverse, more than 48 tables.
        undone = ("take 2", "take 1000000000", "put 0 0 / 0 0", "turn 1 1 / 1 1", "put 1 1 / 1 1", "put 1 1 / 0 1", "put 2 0 / 0 1")
        start = "live 5 2\nput 0 1 / 1 0\nput 4 0 / 0 1"
        for line in wrong + undone:
            if line != "put 2 0 / 0 1":
                self.refused(("BadText", 3), led_live, start + "\n" + line)
                self.refused(("BadText", 3), led_live, start + "\n" + line + "\ntake 0")
                self.refused(("BadText", 3), led_live, start + "\n" + line + "\n" + line)
        self.refused(("BadText", 1), led_live, "live 5 2\ntake 0")
        self.refused(("BadText", 3), led_live, "live 5 2\nput 0 1 / 1 0\ntake 0\ntake 0\ntake 0")
        self.refused(("BadText", 5), led_live, TEXT + "\n")
        self.refused(("BadText", 5), led_live, TEXT + "\n\n")
        self.refused(("BadText", 5), led_live, TEXT + "\ntake 1")
        self.assertEqual(led_live(TEXT + "\ntake 0").makers, ())

    def test_many_deeds(self):
        one = signed(3)
        live = LiveHouse(3, 3)
        for at in range(200):
            live.do(("put", one.tables[at % 48]))
            if at % 3 == 0:
                live.do(("take", at // 7 % len(live.makers)))
        text = journal_text(live)
        again = led_live(text)
        self.assertEqual((again.standing, again.house, journal_text(again)), (267, live.house, text))
        self.assertEqual(again.house, House(3, 3, live.makers))


if __name__ == "__main__":
    unittest.main()
