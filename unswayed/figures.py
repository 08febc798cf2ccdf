"""Numbers and tables in texts: without zeros ahead, with one space between."""

FIGURES = "0123456789"


def number_of(word, least, most):
    """The number from least to most that the word tells; None if it tells none."""
    # Long words are no such numbers in any case: Python would refuse to read them.
    if not 1 <= len(word) <= len(str(most)) or not all([sign in FIGURES for sign in word]):
        return None
    if len(word) > 1 and word[0] == "0":
        return None
    number = int(word)
    return number if least <= number <= most else None


def numbers_of(text, many, most):
    """The list of many numbers from 0 to most that the text tells, with one space between; None if it tells none."""
    numbers = [number_of(word, 0, most) for word in text.split(" ")]
    return numbers if len(numbers) == many and None not in numbers else None


def numbers_text(numbers):
    """The numbers with one space between."""
    return " ".join([str(number) for number in numbers])


def lines_text(table):
    """The lines of a table, one after the other."""
    return " / ".join([numbers_text(line) for line in table.lines])


def lines_of_text(text, prime, wide):
    """The lines of the square table that a text tells; None if it tells none with numbers from 0 to prime - 1."""
    lines = [numbers_of(part, wide, prime - 1) for part in text.split(" / ")]
    if len(lines) != wide or None in lines:
        return None
    return tuple([tuple(line) for line in lines])
