"""Rows of numbers modulo a prime, reduced by one another."""

from unswayed.counting import undone


class Echelon:
    """Independent rows of wide numbers, each beginning with a 1 at a place where all later ones have 0.

    A row is kept as one great number whose digits are its numbers, since a multiple
    of it is then added in a single step: tables of 300 lines would take minutes otherwise.
    """

    def __init__(self, prime, wide):
        self.prime = prime
        self.wide = wide
        # A digit must hold what comes up when a multiple of each row is added before anything is reduced.
        self.bits = (prime * prime * (wide + 1)).bit_length()
        self.spots = []
        self.packs = []

    def another(self):
        """An Echelon with the same rows, to which others can be put."""
        copied = Echelon(self.prime, self.wide)
        copied.spots = list(self.spots)
        copied.packs = list(self.packs)
        return copied

    def rest(self, numbers):
        """The row less multiples of the kept ones, with 0 at all their first places."""
        mask = (1 << self.bits) - 1
        whole = pack_digits([number % self.prime for number in numbers], self.bits)
        for spot, pack in zip(self.spots, self.packs):
            number = ((whole >> (self.bits * spot)) & mask) % self.prime
            if number:
                whole = whole + (self.prime - number) * pack
        return self.numbers_of(whole)

    def numbers_of(self, whole):
        """The numbers of a row that is kept as a great number."""
        mask = (1 << self.bits) - 1
        return [((whole >> (self.bits * spot)) & mask) % self.prime for spot in range(self.wide)]

    def put(self, numbers):
        """Keeps the row, unless it is a sum of multiples of the kept ones; tells whether it does."""
        if not any(numbers):
            return False
        left = self.rest(numbers)
        spots = [spot for spot, number in enumerate(left) if number]
        if not spots:
            return False
        factor = undone(left[spots[0]], self.prime)
        self.spots.append(spots[0])
        self.packs.append(pack_digits([number * factor % self.prime for number in left], self.bits))
        return True

    def reduced(self):
        """The pairs of the first place and the row, of the reduced form of all rows, ascending."""
        tidied = Echelon(self.prime, self.wide)
        pairs = []
        for spot, at in sorted([(place, at) for at, place in enumerate(self.spots)], reverse=True):
            row = tidied.rest(self.numbers_of(self.packs[at]))
            tidied.put(row)
            pairs.append((spot, row))
        return pairs[::-1]


def pack_digits(numbers, bits):
    """The great number that has the numbers as its digits of so many bits, the first one lowest."""
    whole = 0
    for number in reversed(numbers):
        whole = (whole << bits) | number
    return whole


def echelon_of(prime, wide, rows):
    """The Echelon with all these rows put."""
    echelon = Echelon(prime, wide)
    for row in rows:
        echelon.put(row)
    return echelon


def tidy_zeros(prime, wide, equations):
    """The rows of wide numbers that all equations lead to 0: the tidy form of all of them, as a list of lists."""
    # Read from the right, each column without a leading 1 gives a row that begins with it.
    pairs = echelon_of(prime, wide, [equation[::-1] for equation in equations]).reduced()
    leading = {spot: True for spot, _ in pairs}
    rows = []
    for spot in reversed(range(wide)):
        if spot not in leading:
            row = [0] * wide
            row[spot] = 1
            for place, line in pairs:
                row[place] = -line[spot] % prime
            rows.append(row[::-1])
    return rows
