"""Points [140], [141] and [142], unswayed/live.py."""

import itertools
import random
import unittest

from tests.tools import (
    NO_NUMBERS, NO_OBJECTS, ToolCase, drawn_table, house, letters, many_houses, shown, signed, slow_led, slow_moved, slow_times,
    slow_undone, some_points, some_poly, table, telling_of, trivial)
from unswayed.changes import is_change
from unswayed.families import family_house
from unswayed.houses import House, house_led
from unswayed.inner import index_of
from unswayed.leadings import is_unswayed
from unswayed.live import LiveHouse, is_deed
from unswayed.polys import Poly, constant, poly_power, poly_product, poly_sum
from unswayed.tables import Table, plain

SWAP, SIGN, TURN = table(5, [0, 1], [1, 0]), table(5, [4, 0], [0, 1]), table(5, [1, 1], [0, 1])
MINUS = table(5, [4, 0], [0, 4])
H = house(5, [[4, 0], [0, 4]])
SIGNED = house(5, [[0, 1], [1, 0]], [[4, 0], [0, 1]])
X, Y = letters(5, 2)
NO_DEEDS = NO_OBJECTS + (
    ("put",), ("put", None), ["put", SWAP], ("take", True), ("take", None), ("take", "0"), ("take", 1.0), ("take", [0]),
    ("turn", ((0, 1), (1, 0))), ("put", SWAP, SWAP), ("Put", SWAP), ("undo", 0), ("take", SWAP), ("put", 0), (SWAP, "put"),
    (b"put", SWAP), ("", SWAP), ("turn", H), "put", ("put", [SWAP]), (["put"], SWAP), ({}, 0))
NO_NAMES = tuple(thing for thing in NO_OBJECTS if thing != "x") + ("", "abcdefghi", "A", "a1", "a b", " a", "a ", "\u00e9", "a\n", "_", b"a", ["a"], ("a",), "aBc")


def made(*deeds, prime=5, wide=2):
    live = LiveHouse(prime, wide)
    for deed in deeds:
        live.do(deed)
    return live


def state(live):
    """All that a live house tells of itself."""
    return shown((live.makers, live.house, live.standing, live.deeds(), live.told(), live.together(), live.marks(), [
        (name, live.marked(name)) for name in live.marks()]))


def slow_told(one, watched):
    """What the House makes of what is watched, by plain ways."""
    found = {}
    for name, thing in sorted(watched.items()):
        if isinstance(thing, Poly):
            kept = [each for each in one.tables if slow_led(thing, each) == thing]
            found[name] = ("poly", len(kept) == one.size, len(kept))
        else:
            orbit = {slow_moved(each, thing) for each in one.tables}
            found[name] = ("point", min(orbit), len(orbit))
    return found


def slow_together(one, watched):
    lots = []
    for name, thing in sorted(watched.items()):
        for lot in lots:
            other = watched[lot[0]]
            if isinstance(thing, Poly) and isinstance(other, Poly):
                same = any(slow_led(other, each) == thing for each in one.tables)
            else:
                same = not isinstance(thing, Poly) and not isinstance(other, Poly) and any(
                    slow_moved(each, other) == tuple(thing) for each in one.tables)
            if same:
                lot.append(name)
                break
        else:
            lots.append([name])
    return sorted(tuple(lot) for lot in lots)


class IsDeedTest(ToolCase):
    def test_any_value(self):
        self.assertIs(is_deed(("take", 10 ** 5000)), True)
        for thing in (("put", SWAP), ("turn", plain(97, 3)), ("take", 0), ("take", -5), ("take", 10 ** 9 + 1),
                      ("put", Table(5, 2, 3, [[1, 0, 0], [0, 1, 0]])), ("put", table(5, [0])), ("turn", Table(2, 0, 0, []))):
            self.assertIs(self.unchanged(is_deed, thing), True)
        for thing in NO_DEEDS:
            self.assertIs(is_deed(thing=thing), False)


class DeedsTest(ToolCase):
    def test_a_new_one(self):
        for prime, wide in ((2, 1), (5, 2), (97, 3)):
            live = LiveHouse(prime=prime, wide=wide)
            self.assertEqual((live.prime, live.wide, live.makers, live.standing), (prime, wide, (), 0))
            self.assertEqual(live.house, trivial(prime, wide))
            self.assertEqual((live.deeds(), live.told(), live.together(), live.marks()), ([], {}, [], []))
        for prime in NO_NUMBERS + (0, 1, 4, 101):
            self.refused(("BadPrime",), LiveHouse, prime, None)
        for wide in NO_NUMBERS + (0, 4, -1):
            self.refused(("BadHouse", "wide"), LiveHouse, 5, wide)

    def test_by_hand(self):
        live = LiveHouse(5, 2)
        self.assertIsNone(live.do(deed=("put", SWAP)))
        live.do(("put", SIGN))
        self.assertEqual((live.makers, live.house, live.standing), ((SWAP, SIGN), SIGNED, 2))
        live.do(("turn", TURN))
        self.assertEqual(live.house, house_led(SIGNED, TURN))
        self.assertEqual(live.makers[0], slow_times(slow_times(TURN, SWAP), slow_undone(TURN)))
        live.do(("take", 0))
        self.assertEqual((len(live.makers), live.house.size, live.standing), (1, 2, 4))
        self.assertEqual(live.deeds(), [("put", SWAP), ("put", SIGN), ("turn", TURN), ("take", 0)])
        self.assertIsNone(live.undo())
        self.assertEqual((live.house, live.standing), (house_led(SIGNED, TURN), 3))
        live.undo()
        self.assertEqual((live.makers, live.house, live.deeds()), ((SWAP, SIGN), SIGNED, [("put", SWAP), ("put", SIGN)]))
        self.assertIsNone(live.redo())
        live.redo()
        self.assertEqual((live.standing, live.house.size), (4, 2))
        self.refused(("NothingLeft",), live.redo)
        live.undo()
        live.do(("put", MINUS))
        self.refused(("NothingLeft",), live.redo)
        self.assertEqual(live.makers[-1], MINUS)
        for _ in range(4):
            live.undo()
        self.refused(("NothingLeft",), live.undo)
        self.assertEqual((live.makers, live.standing, live.house), ((), 0, trivial(5, 2)))

    def test_makers_twice(self):
        live = made(("put", SWAP), ("put", SWAP), ("put", plain(5, 2)))
        self.assertEqual((live.makers, live.house.size), ((SWAP, SWAP, plain(5, 2)), 2))
        live.do(("take", 0))
        self.assertEqual((live.makers, live.house.size), ((SWAP, plain(5, 2)), 2))
        live.do(("take", 0))
        self.assertEqual((live.makers, live.house.size), ((plain(5, 2),), 1))

    def test_what_is_refused_changes_nothing(self):
        live = made(("put", SWAP), ("put", SIGN), ("take", 1))
        live.undo()
        live.watch_point("a", (1, 2))
        live.mark("a")
        before = state(live)
        for thing in NO_DEEDS:
            self.refused(("BadDeed",), live.do, thing)
        bad = (
            plain(3, 2), plain(5, 3), plain(5, 1), table(5, [1, 1], [1, 1]), Table(5, 2, 3, [[1, 0, 0], [0, 1, 0]]),
            Table(5, 0, 0, []), table(5, [0, 0], [0, 0]))
        for word, each in itertools.product(("put", "turn"), bad):
            self.refused(("BadTable",), live.do, (word, each))
        for spot in (2, -1, 10 ** 9, 10 ** 5000, -3):
            self.refused(("BadNumber", "spot"), live.do, ("take", spot))
        # With it there would be 480 tables.
        self.refused(("TooMany", 48), live.do, ("put", TURN))
        self.refused(("BadNumber", "spot"), LiveHouse(5, 2).do, ("take", 0))
        self.assertEqual(state(live), before)
        live.redo()
        self.assertEqual(live.standing, 3)

    def test_48_tables(self):
        one = signed(3)
        live = made(*[("put", each) for each in one.few], prime=3, wide=3)
        self.assertEqual((live.house, live.house.size), (one, 48))
        live.do(("put", one.tables[7]))
        self.refused(("TooMany", 48), live.do, ("put", table(3, [1, 1, 0], [0, 1, 0], [0, 0, 1])))
        g = drawn_table(3, 3, "live")
        live.do(("turn", g))
        self.assertEqual(live.house, house_led(one, g))
        self.assertEqual(live.standing, len(one.few) + 2)

    def test_what_is_told_is_new(self):
        live = made(("put", SWAP))
        live.watch_point("a", [1, 2])
        live.deeds().append(1)
        live.told()["b"] = 1
        live.together().append(1)
        live.marks().append("c")
        self.assertEqual((live.deeds(), sorted(live.told()), live.together(), live.marks()), ([("put", SWAP)], ["a"], [("a",)], []))
        self.assertIsInstance(live.makers, tuple)
        self.assertIsInstance(live.deeds()[0], tuple)


class WatchTest(ToolCase):
    def test_by_hand(self):
        live = made(("put", SWAP))
        self.assertIsNone(live.watch_poly(name="even", poly=poly_product(X, X)))
        live.watch_poly("other", poly_product(Y, Y))
        live.watch_poly("both", poly_product(X, Y))
        self.assertIsNone(live.watch_point(name="p", point=[6, -3]))
        live.watch_point("q", (2, 1))
        live.watch_point("zero", (0, 5))
        self.assertEqual(list(live.told().items()), [
            ("both", ("poly", True, 2)), ("even", ("poly", False, 1)), ("other", ("poly", False, 1)), ("p", ("point", (1, 2), 2)),
            ("q", ("point", (1, 2), 2)), ("zero", ("point", (0, 0), 1))])
        self.assertEqual(live.together(), [("both",), ("even", "other"), ("p", "q"), ("zero",)])
        live.do(("put", SIGN))
        self.assertEqual(live.told()["both"], ("poly", False, 4))
        self.assertEqual(live.told()["even"], ("poly", False, 4))
        self.assertEqual(live.told()["p"], ("point", (1, 2), 8))
        # What had the name is no longer watched.
        live.watch_point("both", (1, 1))
        self.assertEqual(live.told()["both"], ("point", (1, 1), 4))
        live.watch_poly("p", constant(5, 2, 3))
        self.assertEqual(live.told()["p"], ("poly", True, 8))
        self.assertIsNone(live.unwatch(name="p"))
        self.refused(("NoWatch", "p"), live.unwatch, "p")
        self.assertNotIn("p", live.told())
        live.watch_point("p", (1, 3))
        self.assertEqual(live.together(), [("both",), ("even", "other"), ("p", "q"), ("zero",)])

    def test_deeds_do_not_touch_it(self):
        live = made(("put", SWAP), ("put", SIGN))
        live.watch_poly("a", X)
        live.undo()
        live.undo()
        self.assertEqual(live.told(), {"a": ("poly", True, 1)})
        live.watch_point("b", (3, 3))
        live.redo()
        self.assertEqual(live.told(), {"a": ("poly", False, 1), "b": ("point", (3, 3), 1)})
        live.unwatch("a")
        live.redo()
        self.assertEqual(live.told(), {"b": ("point", (2, 2), 4)})

    def test_a_poly_and_a_point_are_never_together(self):
        live = LiveHouse(5, 2)
        live.watch_poly("zero", Poly(5, 2, {}))
        live.watch_point("origin", (0, 0))
        live.watch_poly("null", Poly(5, 2, {}))
        live.watch_point("start", (5, 5))
        self.assertEqual(live.together(), [("null", "zero"), ("origin", "start")])
        self.assertEqual(live.told()["zero"], ("poly", True, 1))

    def test_names(self):
        live = LiveHouse(5, 2)
        for name in ("a", "z", "abcdefgh", "poly", "zzzzzzzz"):
            live.watch_poly(name, X)
            live.mark(name)
        self.assertEqual(live.marks(), ["a", "abcdefgh", "poly", "z", "zzzzzzzz"])
        before = state(live)
        for name in NO_NAMES:
            self.refused(("BadName",), live.watch_poly, name, None)
            self.refused(("BadName",), live.watch_point, name, None)
            self.refused(("BadName",), live.mark, name)
            for call in (live.unwatch, live.marked, live.since):
                self.refused(("BadName",), call, name)
        for poly in NO_OBJECTS + (letters(3, 2)[0], letters(5, 3)[0], letters(5, 1)[0]):
            self.refused(("BadPoly",), live.watch_poly, "a", poly)
        for point in NO_OBJECTS + ([1], [1, 2, 3], [True, 0], [1.0, 0], "ab", {0: 1, 1: 0}, (None, 1)):
            self.refused(("BadPoint",), live.watch_point, "a", point)
        for name in ("b", "aa"):
            self.refused(("NoWatch", name), live.unwatch, name)
            self.refused(("NoMark", name), live.marked, name)
            self.refused(("NoMark", name), live.since, name)
        self.assertEqual(state(live), before)


class MarksTest(ToolCase):
    def test_by_hand(self):
        live = made(("put", MINUS))
        self.assertIsNone(live.mark(name="small"))
        self.assertEqual(live.since(name="small"), ("same",))
        live.do(("put", SWAP))
        self.assertEqual(live.since("small"), ("more", 2))
        live.do(("put", SIGN))
        live.mark("large")
        self.assertEqual((live.since("small"), live.since("large")), (("more", 4), ("same",)))
        live.undo()
        self.assertEqual((live.since("small"), live.since("large")), (("more", 2), ("less", 2)))
        live.redo()
        live.do(("turn", TURN))
        told = live.since("large")
        self.assertEqual((len(told), told[0]), (2, "turned"))
        self.assertIs(is_change(SIGNED, live.house, told[1]), True)
        self.assertEqual(live.since("large"), told)
        self.assertEqual(live.marked(name="large"), SIGNED)
        self.assertEqual(live.marked("small"), H)
        live.do(("take", 0))
        live.do(("take", 0))
        self.assertEqual(live.since("large"), ("other", 8, 2))
        self.assertEqual(live.since("small"), ("other", 2, 2))
        live.mark("large")
        self.assertEqual((live.marks(), live.since("large")), (["large", "small"], ("same",)))

    def test_marks_stay(self):
        live = made(("put", SWAP))
        live.mark("a")
        live.watch_poly("a", X)
        live.unwatch("a")
        live.undo()
        self.assertEqual((live.marks(), live.marked("a").size, live.since("a")), (["a"], 2, ("less", 2)))
        self.refused(("NoWatch", "a"), live.unwatch, "a")
        live.mark("b")
        live.redo()
        self.assertEqual((live.since("a"), live.since("b")), (("same",), ("more", 2)))

    def test_houses_that_are_kept(self):
        for name, one in many_houses().items():
            if one.size <= 12:
                live = made(*[("put", each) for each in one.few], prime=one.prime, wide=one.wide)
                live.mark("all")
                g = drawn_table(one.prime, one.wide, name + "marks")
                live.do(("turn", g))
                told = live.since("all")
                if house_led(one, g) == one:
                    self.assertEqual(told, ("same",))
                else:
                    self.assertEqual(told[0], "turned", name)
                    self.assertIs(is_change(one, live.house, told[1]), True, name)


class HeartTest(ToolCase):
    def drawn_steps(self, one, seed, many):
        """Draws what is done with a live house, and checks each time that all is as if built afresh."""
        chance = random.Random(seed)
        live = LiveHouse(one.prime, one.wide)
        makers, done, undone, watched, marks = (), [], [], {}, {}
        for at in range(many):
            what = chance.choice(("put", "put", "take", "turn", "undo", "undo", "redo", "watch", "unwatch", "mark"))
            name = chance.choice("abcde")
            if what in ("put", "take", "turn"):
                thing = chance.choice(one.tables) if what != "turn" else chance.choice(
                    one.tables + (drawn_table(one.prime, one.wide, f"{seed} {at}"),))
                deed = (what, chance.randrange(4) if what == "take" else thing)
                new = self.makers_after(one, makers, deed)
                told = telling_of(live.do, deed)
                self.assertEqual(told is None, new is not None)
                if new is not None:
                    done.append((deed, makers))
                    makers, undone = new, []
            elif what == "undo":
                self.assertEqual(telling_of(live.undo), None if done else ("NothingLeft",))
                if done:
                    undone.append((done[-1][0], makers))
                    makers = done.pop()[1]
            elif what == "redo":
                self.assertEqual(telling_of(live.redo), None if undone else ("NothingLeft",))
                if undone:
                    done.append((undone[-1][0], makers))
                    makers = undone.pop()[1]
            elif what == "watch" and chance.random() < 0.5:
                watched[name] = some_poly(one.prime, one.wide, 2, f"{seed} {at}", 2)
                live.watch_poly(name, watched[name])
            elif what == "watch":
                watched[name] = some_points(one, f"{seed} {at}", 1)[0]
                live.watch_point(name, list(watched[name]))
            elif what == "unwatch":
                self.assertEqual(telling_of(live.unwatch, name), None if name in watched else ("NoWatch", name))
                watched.pop(name, None)
            else:
                live.mark(name)
                marks[name] = House(one.prime, one.wide, makers)
            self.checked(live, makers, [deed for deed, _ in done], watched, marks)
        return live

    def makers_after(self, one, makers, deed):
        word, thing = deed
        if word == "take":
            return makers[:thing] + makers[thing + 1:] if thing < len(makers) else None
        if word == "turn":
            back = slow_undone(thing) if thing != plain(one.prime, one.wide) else thing
            return tuple(slow_times(slow_times(thing, each), back) for each in makers)
        new = makers + (thing,)
        return None if telling_of(House, one.prime, one.wide, new) else new

    def checked(self, live, makers, done, watched, marks):
        self.assertEqual((live.makers, live.deeds(), live.standing), (makers, done, len(done)))
        afresh = House(live.prime, live.wide, makers)
        self.assertEqual(live.house, afresh)
        self.assertEqual(shown(live.house), shown(afresh))
        told = live.told()
        self.assertEqual(list(told.items()), list(slow_told(afresh, watched).items()))
        self.assertEqual(live.together(), slow_together(afresh, watched))
        self.assertEqual(live.marks(), sorted(marks))
        for name, kept in marks.items():
            self.assertEqual(live.marked(name), kept)
            since = live.since(name)
            first, now = set(each.lines for each in kept.tables), set(each.lines for each in afresh.tables)
            if first == now:
                self.assertEqual(since, ("same",))
            elif first < now:
                self.assertEqual(since, ("more", len(now) // len(first)))
            elif now < first:
                self.assertEqual(since, ("less", len(first) // len(now)))
            elif since[0] == "turned":
                self.assertEqual(house_led(kept, since[1]), afresh)
            else:
                self.assertEqual(since, ("other", kept.size, afresh.size))

    def test_drawn_steps(self):
        houses = many_houses()
        for name in ("signed 5 2", "shear 3 2", "all 7 1", "cycle 2 3", "quaternions 3 2", "exchanges 5 3", "all 2 2",
                     "drawn signed 5 2", "triangles 2 3", "scaled 13 2", "shear and sign 3 3"):
            self.drawn_steps(houses[name], name, 60)

    def test_many_deeds(self):
        live = LiveHouse(5, 2)
        for at in range(400):
            live.do(("put", (SWAP, SIGN, MINUS)[at % 3]))
        self.assertEqual((live.standing, len(live.makers), live.house), (400, 400, SIGNED))
        live.do(("turn", TURN))
        for _ in range(399):
            live.undo()
        self.assertEqual((live.standing, live.house.size, len(live.makers)), (2, 8, 2))
        for _ in range(399):
            live.redo()
        self.assertEqual((live.standing, live.house), (401, house_led(SIGNED, TURN)))
        self.refused(("NothingLeft",), live.redo)

    def test_24_tables_and_more(self):
        for word in (("round", 97, 24), ("round", 97, 12), ("twin", 97, 12), ("wreath", 5, 3, 2, 1)):
            one = family_house(word)
            live = made(*[("put", each) for each in one.few], prime=one.prime, wide=one.wide)
            live.watch_point("p", (1, 2, 3)[:one.wide])
            poly = poly_sum(poly_power(letters(one.prime, one.wide)[0], 2), letters(one.prime, one.wide)[1])
            live.watch_poly("q", poly)
            live.mark("all")
            self.assertEqual(live.told(), slow_told(one, {"p": (1, 2, 3)[:one.wide], "q": poly}))
            live.undo()
            self.assertEqual(live.since("all"), ("less", index_of(one, live.house)))
            self.assertIs(live.told()["q"][1], is_unswayed(live.house, poly))


if __name__ == "__main__":
    unittest.main()
