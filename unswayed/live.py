"""A live house: tables are put, taken and turned, and what is watched is told at any time."""

from unswayed.changes import change
from unswayed.errors import BadDeed, BadName, BadNumber, BadPoly, BadTable, NoMark, NothingLeft, NoWatch
from unswayed.houses import House, is_house_table
from unswayed.inner import index_of, is_inner
from unswayed.kinds import is_number, is_within, point_of
from unswayed.leadings import led_lot, orbit_of
from unswayed.polys import Poly
from unswayed.solving import inverse
from unswayed.tables import Table, times

LETTERS = "abcdefghijklmnopqrstuvwxyz"
MOST_LETTERS = 8


def is_deed(thing):
    """Whether any value is a deed."""
    if not isinstance(thing, tuple) or len(thing) != 2 or not isinstance(thing[0], str):
        return False
    if thing[0] in ("put", "turn"):
        return isinstance(thing[1], Table)
    return thing[0] == "take" and is_number(thing[1])


def is_name(thing):
    """Whether any value is a string of 1 to 8 letters from a to z."""
    return isinstance(thing, str) and 1 <= len(thing) <= MOST_LETTERS and all([sign in LETTERS for sign in thing])


def check_name(thing):
    """BadName unless the value is a name."""
    if not is_name(thing):
        raise BadName("a string of 1 to 8 letters from a to z is wanted")


class LiveHouse:
    """The house that some tables, its makers, make; they change by deeds, which can be taken back."""

    def __init__(self, prime, wide):
        # BadPrime and BadHouse("wide") are those of the House.
        self.house = House(prime, wide, [])
        self.prime = prime
        self.wide = wide
        self.makers = ()
        self.standing = 0
        self._done = []
        # The makers and the house ahead of each deed done, and what is done by each deed taken back, the last one last.
        self._before = []
        self._undone = []
        self._watched = {}
        self._kept = {}

    def do(self, deed):
        """Does a deed; what is refused changes nothing."""
        if not is_deed(deed):
            raise BadDeed("a deed is wanted")
        makers = makers_behind(self, deed)
        house = House(self.prime, self.wide, unlike_tables(makers))
        self._undone = []
        self._step_to(deed, makers, house)

    def _step_to(self, deed, makers, house):
        """Goes on to the makers and the house that a deed makes."""
        self._done.append(deed)
        self._before.append((self.makers, self.house))
        self.makers = makers
        self.house = house
        self.standing = len(self._done)

    def deeds(self):
        """The list of the deeds done, in order."""
        return list(self._done)

    def undo(self):
        """Takes the last deed done back."""
        if not self._done:
            raise NothingLeft("there is no deed to take back")
        self._undone.append((self._done.pop(), self.makers, self.house))
        self.makers, self.house = self._before.pop()
        self.standing = len(self._done)

    def redo(self):
        """Does the deed that was last taken back again."""
        if not self._undone:
            raise NothingLeft("there is no deed to do again")
        deed, makers, house = self._undone.pop()
        self._step_to(deed, makers, house)

    def watch_poly(self, name, poly):
        """Watches a Poly under a name."""
        check_name(name)
        if not isinstance(poly, Poly) or poly.prime != self.prime or poly.wide != self.wide:
            raise BadPoly("a Poly of the house's prime and wide is wanted")
        self._watched[name] = ("poly", poly)

    def watch_point(self, name, point):
        """Watches a point under a name."""
        check_name(name)
        self._watched[name] = ("point", point_of(point, self.wide, self.prime))

    def unwatch(self, name):
        """Watches what has the name no longer."""
        check_name(name)
        if name not in self._watched:
            raise NoWatch(name)
        del self._watched[name]

    def told(self):
        """What the house makes of all that is watched, by names."""
        return {name: told_of(self.house, self._watched[name]) for name in sorted(self._watched)}

    def together(self):
        """The ascending list of the tuples of the names of what the house leads to one another."""
        lots = {}
        for name in sorted(self._watched):
            lots.setdefault(first_led(self.house, self._watched[name]), []).append(name)
        return sorted([tuple(names) for names in lots.values()])

    def mark(self, name):
        """Keeps the present house under a name."""
        check_name(name)
        self._kept[name] = self.house

    def marks(self):
        """The ascending list of the names of all houses that are kept."""
        return sorted(self._kept)

    def marked(self, name):
        """The house that is kept under a name."""
        check_name(name)
        if name not in self._kept:
            raise NoMark(name)
        return self._kept[name]

    def since(self, name):
        """How the present house stands to the one that is kept under a name."""
        return since_then(self.marked(name), self.house)


def makers_behind(live, deed):
    """The tuple of the makers that there are when a deed is done."""
    word, thing = deed
    if word == "take":
        if not is_within(thing, 0, len(live.makers) - 1):
            raise BadNumber("spot")
        return live.makers[:thing] + live.makers[thing + 1:]
    if not is_house_table(thing, live.prime, live.wide):
        raise BadTable("a table with an inverse, of the house's prime and wide, is wanted")
    if word == "put":
        return live.makers + (thing,)
    back = inverse(thing)
    return tuple([times(times(thing, maker), back) for maker in live.makers])


def unlike_tables(tables):
    """The list of the tables, each once: there may be many makers, but few of them are unlike."""
    return list({table.lines: table for table in tables}.values())


def told_of(house, watched):
    """What a house makes of what is watched."""
    kind, thing = watched
    if kind == "poly":
        many = len(led_lot(house, thing))
        # A Poly is led to as many Polys as the index of its keeper tells.
        return "poly", many == 1, house.size // many
    orbit = orbit_of(house, thing)
    return "point", orbit[0], len(orbit)


def first_led(house, watched):
    """The kind of what is watched, and the first one of all that the house leads it to."""
    kind, thing = watched
    if kind == "poly":
        return kind, tuple(led_lot(house, thing)[0].terms.items())
    return kind, orbit_of(house, thing)[0]


def since_then(kept, present):
    """How the present house stands to one that was kept."""
    if kept == present:
        return ("same",)
    if is_inner(present, kept):
        return "more", index_of(present, kept)
    if is_inner(kept, present):
        return "less", index_of(kept, present)
    table = change(kept, present)
    if table is not None:
        return "turned", table
    return "other", kept.size, present.size
