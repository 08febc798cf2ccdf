"""Deeds as texts."""

from unswayed.errors import BadDeed, BadNumber, BadText
from unswayed.figures import lines_of_text, lines_text, number_of
from unswayed.houses import MOST_WIDE
from unswayed.kinds import check_prime, is_within
from unswayed.live import is_deed
from unswayed.tables import Table

MOST_SPOT = 1000000000


def deed_text(deed):
    """The text of a deed: its word, then the lines of its table, or its number."""
    if not is_deed(deed):
        raise BadDeed("a deed is wanted")
    word, thing = deed
    if word == "take":
        if not is_within(thing, 0, MOST_SPOT):
            raise BadDeed("a deed with a number from 0 to 10 ** 9 is wanted")
        return f"take {thing}"
    if thing.tall != thing.wide or not is_within(thing.tall, 1, MOST_WIDE):
        raise BadDeed("a deed with a square table of 1 to 3 lines is wanted")
    return f"{word} {lines_text(thing)}"


def deed_of_text(prime, wide, text):
    """The deed of this prime, its table of wide lines, with this text."""
    check_prime(prime)
    if not is_within(wide, 1, MOST_WIDE):
        raise BadNumber("wide")
    deed = deed_read(prime, wide, text)
    if deed is None:
        raise BadText(0)
    return deed


def deed_read(prime, wide, text):
    """The deed that any value tells; None if it tells none."""
    if not isinstance(text, str):
        return None
    word, _, rest = text.partition(" ")
    if word == "take":
        spot = number_of(rest, 0, MOST_SPOT)
        return None if spot is None else (word, spot)
    if word not in ("put", "turn"):
        return None
    lines = lines_of_text(rest, prime, wide)
    return None if lines is None else (word, Table(prime, wide, wide, lines))
