"""Point [144], unswayed/desk.py."""

import random
import unittest

from tests.test_live import SWAP, state
from tests.tools import (
    NO_NUMBERS, NO_OBJECTS, ToolCase, drawn_table, many_houses, slow_moved, small_houses, some_points, telling_of, trivial)
from unswayed.deedtexts import deed_text
from unswayed.degrees import count_of
from unswayed.desk import Desk
from unswayed.houses import House, is_mild
from unswayed.journals import journal_text, led_live
from unswayed.live import LiveHouse
from unswayed.texts import house_text


def desk_of(one):
    """A desk whose house is this one."""
    desk = Desk(one.prime, one.wide)
    for each in one.few:
        desk.say(deed_text(("put", each)))
    return desk


class DeskTest(ToolCase):
    def test_a_new_one(self):
        desk = Desk(prime=5, wide=2)
        self.assertIsInstance(desk.live, LiveHouse)
        self.assertEqual((desk.live.prime, desk.live.wide, desk.live.house), (5, 2, trivial(5, 2)))
        self.assertEqual(desk.say(line="size"), "1")
        for prime in NO_NUMBERS + (0, 1, 4, 101):
            self.refused(("BadPrime",), Desk, prime, None)
        for wide in NO_NUMBERS + (0, 4, -1):
            self.refused(("BadHouse", "wide"), Desk, 5, wide)

    def test_by_hand(self):
        desk = Desk(5, 2)
        talk = (
            ("undo", "refused"), ("redo", "refused"), ("put 0 1 / 1 0", "done"), ("put 4 0 / 0 1", "done"), ("size", "8"),
            ("mild", "yes"), ("count 0", "1"), ("count 2", "1"), ("count 4", "2"), ("count 12", "4"), ("orbit 0 0", "1"),
            ("orbit 1 1", "4"), ("orbit 1 2", "8"), ("leads 1 2 to 3 4", "yes"), ("leads 1 2 to 3 3", "no"), ("leads 0 0 to 0 0", "yes"),
            ("mark a", "done"), ("since a", "same"), ("since b", "refused"), ("undo", "done"), ("since a", "less"), ("redo", "done"),
            ("redo", "refused"), ("turn 1 1 / 0 1", "done"), ("since a", "turned"), ("take 2", "refused"), ("put 1 1 / 1 1", "refused"),
            ("put 1 1 / 0 1", "refused"), ("turn 0 0 / 0 0", "refused"), ("take 0", "done"), ("take 0", "done"), ("take 0", "refused"),
            ("house", "house 5 2\n1 0 / 0 1"), ("put 1 1 / 0 1", "done"), ("mild", "no"), ("size", "5"), ("since a", "other"),
            ("journal", "live 5 2\nput 0 1 / 1 0\nput 4 0 / 0 1\nturn 1 1 / 0 1\ntake 0\ntake 0\nput 1 1 / 0 1"),
            ("undo", "done"), ("undo", "done"), ("undo", "done"), ("undo", "done"), ("put 1 1 / 0 1", "refused"), ("redo", "done"),
            ("since a", "turned"), ("undo", "done"), ("since a", "same"), ("mark turned", "done"), ("put 4 0 / 0 4", "done"),
            ("since turned", "same"), ("undo", "done"), ("undo", "done"), ("undo", "done"), ("mark size", "done"),
            ("put 0 1 / 1 0", "done"), ("since size", "more"))
        for line, answer in talk:
            self.assertEqual(desk.say(line), answer, line)

    def test_many_houses(self):
        for name, one in many_houses().items():
            desk = desk_of(one)
            self.assertEqual(desk.live.house, one)
            self.assertEqual(desk.say("size"), str(one.size))
            self.assertEqual(desk.say("mild"), "yes" if is_mild(one) else "no")
            self.assertEqual(desk.say("house"), house_text(one))
            self.assertEqual(desk.say("journal"), journal_text(desk.live))
            for degree in (0, 1, 2, 3, 12) if one.size < 13 else (2, 3):
                self.assertEqual(desk.say(f"count {degree}"), str(count_of(one, degree)), name)
            points = some_points(one, name, 3)
            for point in points:
                orbit = {slow_moved(each, point) for each in one.tables}
                words = " ".join(map(str, point))
                self.assertEqual(desk.say("orbit " + words), str(len(orbit)), name)
                for other in points + [slow_moved(one.tables[-1], point)]:
                    line = "leads " + words + " to " + " ".join(map(str, other))
                    self.assertEqual(desk.say(line), "yes" if other in orbit else "no", name)

    def test_all_else(self):
        desk = desk_of(small_houses()["signed 5 2"])
        desk.say("mark a")
        desk.live.watch_point("p", (1, 2))
        before = state(desk.live), desk.say("journal")
        lines = tuple(thing for thing in NO_OBJECTS if thing != "x") + (
            "", "x", " ", "?", "Size", "size ", " size", "size 1", "size\n", "sizes", "mild 1", "house 1", "journal\n", "undo 1", "redo ", "UNDO",
            "count", "count ", "count 13", "count -1", "count 01", "count 1 ", "count  1", "count x", "count 1 2", "count " + "1" * 5000,
            "count \u0661", "count 1\n", "orbit", "orbit ", "orbit 1", "orbit 1 2 3", "orbit 1 5", "orbit 1 -1", "orbit 01 2", "orbit 1  2",
            "orbit 1 2 ", "orbit x y", "orbit 1 / 2", "orbit 1 " + "2" * 5000, "leads", "leads 1 2", "leads 1 2 to", "leads 1 2 to ", "leads 1 2 to 3",
            "leads 1 2 to 3 4 5", "leads 1 2 3 4", "leads 1 2 to 3 5", "leads 1 2  to 3 4", "leads 1 2 to  3 4", "leads to 1 2", "leads 1 2 to 3 4 to 1 2",
            "leads 1 2 To 3 4", "leads 1 2 to 3 4 ", "leads 1 2 to 03 4", "leads 5 2 to 3 4", "lead 1 2 to 3 4", "mark", "mark ", "mark A",
            "mark a b", "mark abcdefghi", "mark a1", "mark  a", "mark a ", "since", "since ", "since A", "since a b", "since abcdefghi", "since  a",
            "mark \u00e9", "marks", "told", "put", "put 1", "put 1 0 / 0 5", "put 1 0 / 0 1 ", "put 01 0 / 0 1", "take", "take x", "take 01",
            "take 1000000001", "take " + "9" * 5000, "turn", "turn 1 0", "deed", "watch a", b"size", ["size"], ("size",), SWAP, 8, "size\nmild",
            "put 0 1 / 1 0\n", "put 1 0 0 / 0 1 0 / 0 0 1")
        for line in lines:
            self.assertEqual(desk.say(line), "?", line)
        for line in ("take 2", "take 1000000000", "put 0 0 / 0 0", "put 1 1 / 0 1", "turn 1 1 / 1 1", "redo", "since b"):
            self.assertEqual(desk.say(line), "refused", line)
        self.assertEqual((state(desk.live), desk.say("journal")), before)

    def test_one_and_three_unknowns(self):
        desk = Desk(97, 1)
        for line, answer in (("put 22", "done"), ("size", "4"), ("orbit 0", "1"), ("orbit 5", "4"), ("orbit 97", "?"), ("count 4", "1"),
                             ("count 3", "0"), ("leads 1 to 22", "yes"), ("leads 1 to 2", "no"), ("leads 1 1 to 2 2", "?"), ("orbit", "?")):
            self.assertEqual(desk.say(line), answer, line)
        desk = Desk(2, 3)
        for line, answer in (("put 0 1 0 / 0 0 1 / 1 0 0", "done"), ("put 1 1 0 / 0 1 0 / 0 0 1", "refused"), ("mild", "yes"), ("orbit 1 0 0", "3"),
                             ("leads 1 0 0 to 0 0 1", "yes"), ("leads 1 0 0 to 1 1 0", "no"), ("count 12", "31"), ("orbit 2 0 0", "?")):
            self.assertEqual(desk.say(line), answer, line)

    def test_drawn_talk(self):
        """At any time all is as a house built afresh tells."""
        for name in ("signed 5 2", "all 2 2", "cycle 2 3", "shear 3 2", "drawn exchanges 5 3"):
            one = many_houses()[name]
            chance = random.Random(name)
            desk, kept = Desk(one.prime, one.wide), {}
            for at in range(60):
                word = chance.choice(("put", "put", "turn", "take", "undo", "redo", "mark", "since"))
                if word in ("put", "turn"):
                    word = deed_text((word, chance.choice(one.tables + (drawn_table(one.prime, one.wide, f"{name} {at}"),))))
                elif word == "take":
                    word = f"take {chance.randrange(4)}"
                elif word in ("mark", "since"):
                    word = word + " " + chance.choice("abc")
                before = desk.live.standing, journal_text(desk.live)
                answer = desk.say(word)
                self.assertIn(answer, ("done", "refused", "same", "more", "less", "turned", "other"))
                if answer == "refused":
                    self.assertEqual((desk.live.standing, journal_text(desk.live)), before)
                if word.startswith("mark"):
                    kept[word[-1]] = desk.live.house
                if word.startswith("since"):
                    self.assertEqual(answer == "refused", word[-1] not in kept)
                    self.assertEqual(answer == "same", kept.get(word[-1]) == desk.live.house)
                afresh = House(one.prime, one.wide, desk.live.makers)
                self.assertEqual(desk.say("house"), house_text(afresh))
                self.assertEqual(desk.say("size"), str(afresh.size))
                self.assertEqual(desk.say("count 3"), str(count_of(afresh, 3)))
                again = led_live(desk.say("journal"))
                self.assertEqual((again.house, again.makers), (afresh, desk.live.makers))
                self.assertIsNone(telling_of(led_live, desk.say("journal")))


if __name__ == "__main__":
    unittest.main()
