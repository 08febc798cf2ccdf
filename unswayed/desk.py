"""A desk: a live house that is led by lines of text."""

from unswayed.deedtexts import deed_read
from unswayed.degrees import count_of
from unswayed.errors import NothingLeft
from unswayed.figures import number_of, numbers_of
from unswayed.houses import is_mild
from unswayed.journals import is_done, journal_text
from unswayed.leadings import leading, orbit_of
from unswayed.live import LiveHouse, is_name
from unswayed.texts import house_text

MOST_COUNTED = 12


class Desk:
    """A live house, and what is answered to lines."""

    def __init__(self, prime, wide):
        self.live = LiveHouse(prime, wide)

    def say(self, line):
        """The answer to any value."""
        if not isinstance(line, str):
            return "?"
        deed = deed_read(self.live.prime, self.live.wide, line)
        if deed is not None:
            return "done" if is_done(self.live, deed) else "refused"
        if line in ("undo", "redo"):
            return stepped(self.live, line)
        word, _, rest = line.partition(" ")
        answer = told_word(self.live, line) if word == line else told_more(self.live, word, rest)
        return "?" if answer is None else answer


def stepped(live, word):
    """Takes a deed back, or does it again; tells whether there was one."""
    try:
        if word == "undo":
            live.undo()
        else:
            live.redo()
    except NothingLeft:
        return "refused"
    return "done"


def told_word(live, word):
    """The answer to one word; None if it is none that is known."""
    if word == "size":
        return str(live.house.size)
    if word == "mild":
        return yes_or_no(is_mild(live.house))
    if word == "house":
        return house_text(live.house)
    return journal_text(live) if word == "journal" else None


def yes_or_no(so):
    """What is answered where something is so, or not."""
    return "yes" if so else "no"


def told_more(live, word, rest):
    """The answer to a word and what stands behind it; None if these are none that are known."""
    if word == "count":
        degree = number_of(rest, 0, MOST_COUNTED)
        return None if degree is None else str(count_of(live.house, degree))
    if word == "orbit":
        point = numbers_of(rest, live.wide, live.prime - 1)
        return None if point is None else str(len(orbit_of(live.house, point)))
    if word == "leads":
        return told_leads(live, rest)
    if word in ("mark", "since") and is_name(rest):
        return marked_now(live, rest) if word == "mark" else since_word(live, rest)
    return None


def told_leads(live, rest):
    """Whether the house leads one point to another one; None if these are not two points with "to" between."""
    one, _, other = rest.partition(" to ")
    start = numbers_of(one, live.wide, live.prime - 1)
    goal = numbers_of(other, live.wide, live.prime - 1)
    if start is None or goal is None:
        return None
    return yes_or_no(leading(live.house, start, goal) is not None)


def marked_now(live, name):
    """Keeps the present house under a name."""
    live.mark(name)
    return "done"


def since_word(live, name):
    """How the present house stands to the one that is kept under a name, in one word."""
    return live.since(name)[0] if name in live.marks() else "refused"
