"""Live houses as texts: journals of their deeds."""

from unswayed.deedtexts import deed_read, deed_text
from unswayed.errors import BadLive, BadNumber, BadTable, BadText, TooMany
from unswayed.houses import MOST_WIDE
from unswayed.live import LiveHouse
from unswayed.texts import head_of


def journal_text(live):
    """The text of a live house: its first line, then a line for each deed done."""
    if not isinstance(live, LiveHouse):
        raise BadLive("a LiveHouse is wanted")
    return "\n".join([f"live {live.prime} {live.wide}"] + [deed_text(deed) for deed in live.deeds()])


def led_live(text):
    """The LiveHouse with the deeds of a journal done."""
    if not isinstance(text, str):
        raise BadText(0)
    lines = text.split("\n")
    head = head_of(lines[0], "live", MOST_WIDE)
    if head is None:
        raise BadText(0)
    prime, wide = head
    live = LiveHouse(prime, wide)
    for at, line in enumerate(lines[1:], start=1):
        deed = deed_read(prime, wide, line)
        if deed is None or not is_done(live, deed):
            raise BadText(at)
    return live


def is_done(live, deed):
    """Does a deed if it can be done; tells whether it was done."""
    try:
        live.do(deed)
    except (BadNumber, BadTable, TooMany):
        return False
    return True
