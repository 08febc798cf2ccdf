"""What the tests share: houses, points, and second ways of working things out."""

import itertools
import random
import unittest

from unswayed.houses import House, house_beside, house_led
from unswayed.polys import Poly
from unswayed.tables import Table

NO_NUMBERS = (None, "1", 1.0, True, False, [1], (1,), {})
PLANES = [[1, 1, 0], [0, 1, 0], [0, 0, 1]], [[1, 0, 1], [0, 1, 0], [0, 0, 1]]
NO_OBJECTS = (None, "x", 1, True, 0.5, [], (), {}, object())


def table(prime, *lines):
    return Table(prime, len(lines), len(lines), list(lines))


def house(prime, *tables):
    return House(prime, len(tables[0]), [table(prime, *lines) for lines in tables])


def trivial(prime, wide):
    return House(prime, wide, [])


def small_houses():
    """Houses with at most 200 points, mild ones and others, by names."""
    return {
        "plain 2 1": trivial(2, 1),
        "plain 5 2": trivial(5, 2),
        "plain 3 3": trivial(3, 3),
        "minus 3 1": house(3, [[2]]),
        "all 7 1": house(7, [[3]]),
        "minus 5 2": house(5, [[4, 0], [0, 4]]),
        "shear 3 2": house(3, [[1, 1], [0, 1]]),
        "shear 2 2": house(2, [[1, 1], [0, 1]]),
        "shear 5 2": house(5, [[1, 1], [0, 1]]),
        "signed 5 2": house(5, [[0, 1], [1, 0]], [[4, 0], [0, 1]]),
        "round 7 2": house(7, [[0, 6], [1, 0]]),
        "all 2 2": house(2, [[0, 1], [1, 0]], [[1, 1], [0, 1]]),
        "quaternions 3 2": house(3, [[0, 2], [1, 0]], [[1, 1], [1, 2]]),
        "special 3 2": house(3, [[1, 1], [0, 1]], [[1, 0], [1, 1]]),
        "all 3 2": house(3, [[1, 1], [0, 1]], [[1, 0], [1, 1]], [[2, 0], [0, 1]]),
        "scaled 13 2": house(13, [[5, 0], [0, 8]]),
        "shear and scale 5 2": house(5, [[1, 1], [0, 1]], [[2, 0], [0, 3]]),
        "cycle 2 3": house(2, [[0, 1, 0], [0, 0, 1], [1, 0, 0]]),
        "exchanges 3 3": house(3, [[0, 1, 0], [1, 0, 0], [0, 0, 1]], [[0, 1, 0], [0, 0, 1], [1, 0, 0]]),
        "exchanges 5 3": house(5, [[0, 1, 0], [1, 0, 0], [0, 0, 1]], [[0, 1, 0], [0, 0, 1], [1, 0, 0]]),
        "triangles 2 3": house(2, [[1, 1, 0], [0, 1, 0], [0, 0, 1]], [[1, 0, 0], [0, 1, 1], [0, 0, 1]]),
        "shear 3 3": house(3, [[1, 1, 0], [0, 1, 1], [0, 0, 1]]),
        "planes 2 3": house(2, [[1, 0, 1], [0, 1, 0], [0, 0, 1]], [[1, 0, 0], [0, 1, 1], [0, 0, 1]]),
        "three mirrors 3 3": house(
            3, [[1, 0, 0], [0, 2, 1], [0, 0, 1]], [[1, 1, 0], [0, 2, 0], [0, 0, 1]], [[1, 0, 1], [0, 1, 0], [0, 0, 1]]),
        "signed 3 3": signed(3),
    }


def large_houses():
    """Houses of greater primes, with more than 200 points."""
    return {
        "plain 97 2": trivial(97, 2),
        "round 97 2": house(97, [[0, 96], [1, 0]], [[0, 1], [1, 0]]),
        "exchanges 7 3": house(7, [[0, 1, 0], [1, 0, 0], [0, 0, 1]], [[0, 1, 0], [0, 0, 1], [1, 0, 0]]),
        "minus 11 3": house(11, [[10, 0, 0], [0, 10, 0], [0, 0, 10]]),
        "shear 17 2": house(17, [[1, 1], [0, 1]]),
        "shear 7 3": house(7, [[1, 1, 0], [0, 1, 0], [0, 0, 1]]),
        "signed 97 3": signed(97),
    }


def signed(prime):
    """The house of 48 tables that exchange three unknowns and change their signs."""
    return house(
        prime, [[0, 1, 0], [1, 0, 0], [0, 0, 1]], [[0, 1, 0], [0, 0, 1], [1, 0, 0]],
        [[prime - 1, 0, 0], [0, 1, 0], [0, 0, 1]])


def all_houses():
    return {**small_houses(), **large_houses()}


def drawn_table(prime, wide, seed):
    """A table with an inverse."""
    chance = random.Random(seed)
    while True:
        lines = [[chance.randrange(prime) for _ in range(wide)] for _ in range(wide)]
        if slow_rank(lines, prime) == wide:
            return table(prime, *lines)


def drawn_houses():
    """The small houses in drawn other coordinates."""
    return {
        "drawn " + name: house_led(one, drawn_table(one.prime, one.wide, name))
        for name, one in small_houses().items()}


def houses_beside():
    """Houses beside one another."""
    found = {
        "signs 5 2": house_beside(house(5, [[4]]), house(5, [[4]])),
        "scales 13 2": house_beside(house(13, [[5]]), house(13, [[3]])),
        "scale and round 7 3": house_beside(house(7, [[2]]), house(7, [[0, 6], [1, 0]])),
        "signed and sign 5 3": house_beside(house(5, [[0, 1], [1, 0]], [[4, 0], [0, 1]]), house(5, [[4]])),
        "minus and minus 5 3": house_beside(house(5, [[4, 0], [0, 4]]), house(5, [[4]])),
        "shear and sign 3 3": house_beside(house(3, [[1, 1], [0, 1]]), house(3, [[2]])),
        "two scales 97 3": house_beside(house(97, [[22]]), house(97, [[1, 0], [0, 35]])),
    }
    return {name: found[name] for name in sorted(found)}


def many_houses():
    return {**all_houses(), **drawn_houses(), **houses_beside()}


def mild_houses():
    return {name: one for name, one in many_houses().items() if one.size % one.prime}


def all_points(prime, wide):
    return list(itertools.product(range(prime), repeat=wide))


def some_points(one, seed, many=4):
    chance = random.Random(seed)
    return [tuple(chance.randrange(one.prime) for _ in range(one.wide)) for _ in range(many)]


def all_rows(wide, degree):
    """The rows of this degree, found among all rows with exponents up to it."""
    return [row for row in itertools.product(range(degree + 1), repeat=wide) if sum(row) == degree]


def some_poly(prime, wide, degree, seed, many=6):
    """A Poly with some terms of degrees up to this one."""
    chance = random.Random(seed)
    terms = {}
    for _ in range(many):
        left = chance.randrange(degree + 1)
        row = []
        for _ in range(wide - 1):
            row.append(chance.randrange(left + 1))
            left -= row[-1]
        terms[tuple(row + [left])] = chance.randrange(1, prime) if prime > 2 else 1
    return Poly(prime, wide, terms)


def level_poly(prime, wide, degree, seed):
    chance = random.Random(seed)
    return Poly(prime, wide, {row: chance.randrange(prime) for row in all_rows(wide, degree)})


def some_table(prime, tall, wide, seed):
    chance = random.Random(seed)
    return Table(prime, tall, wide, [[chance.randrange(prime) for _ in range(wide)] for _ in range(tall)])


def letters(prime, wide):
    """The unknowns."""
    return [Poly(prime, wide, {tuple(int(k == at) for k in range(wide)): 1}) for at in range(wide)]


def slow_value(poly, point):
    total = 0
    for row, number in poly.terms.items():
        for place, exponent in zip(point, row):
            number *= place ** exponent
        total += number
    return total % poly.prime


def slow_moved(one, point):
    return tuple(sum(x * y for x, y in zip(line, point)) % one.prime for line in one.lines)


def slow_orbit(one, point):
    return sorted({slow_moved(each, point) for each in one.tables})


def slow_rank(lines, prime):
    """The rank of some lines, by plain elimination."""
    lines = [[number % prime for number in line] for line in lines]
    found = 0
    while lines:
        line = lines.pop()
        spots = [spot for spot, number in enumerate(line) if number]
        if spots:
            found += 1
            factor = pow(line[spots[0]], -1, prime)
            lines = [
                [(x - other[spots[0]] * factor * y) % prime for x, y in zip(other, line)] for other in lines]
    return found


def slow_determinant(lines):
    """The determinant of a list of lists of numbers, not reduced, along the first line."""
    if not lines:
        return 1
    return sum(
        (-1) ** at * number * slow_determinant([line[:at] + line[at + 1:] for line in lines[1:]])
        for at, number in enumerate(lines[0]))


def slow_times(one, two):
    lines = [[sum(x * y for x, y in zip(line, column)) for column in zip(*two.lines)] for line in one.lines]
    return Table(one.prime, one.tall, two.wide, lines)


def slow_order(one):
    """The least number of factors that give plain."""
    start = [[int(at == k) for k in range(one.wide)] for at in range(one.wide)]
    many, power = 1, one
    while [list(line) for line in power.lines] != start:
        many, power = many + 1, slow_times(power, one)
    return many


def slow_undone(one):
    """The inverse of a table, as the last power of it ahead of plain."""
    many, power = slow_order(one), one
    for _ in range(many - 2):
        power = slow_times(power, one)
    return power


def is_slow_mirror(one):
    return slow_rank([[x - int(at == k) for k, x in enumerate(line)] for at, line in enumerate(one.lines)], one.prime) == 1


def slow_product(one, other):
    terms = {}
    for row, number in one.terms.items():
        for more, factor in other.terms.items():
            key = tuple(a + b for a, b in zip(row, more))
            terms[key] = terms.get(key, 0) + number * factor
    return Poly(one.prime, one.wide, terms)


def slow_sum(one, other):
    terms = one.terms
    for row, number in other.terms.items():
        terms[row] = terms.get(row, 0) + number
    return Poly(one.prime, one.wide, terms)


def slow_led(poly, one):
    """led, by products of the forms of the lines, one factor after another."""
    total = Poly(poly.prime, poly.wide, {})
    for row, number in poly.terms.items():
        part = Poly(poly.prime, poly.wide, {(0,) * poly.wide: number})
        for line, exponent in zip(one.lines, row):
            form = form_poly(poly.prime, line)
            for _ in range(exponent):
                part = slow_product(part, form)
        total = slow_sum(total, part)
    return total


def slow_put(poly, lot):
    """put_in, one factor after another."""
    wide = lot[0].wide
    total = Poly(poly.prime, wide, {})
    for row, number in poly.terms.items():
        part = Poly(poly.prime, wide, {(0,) * wide: number})
        for exponent, factor in zip(row, lot):
            for _ in range(exponent):
                part = slow_product(part, factor)
        total = slow_sum(total, part)
    return total


def form_poly(prime, form):
    wide = len(form)
    return Poly(prime, wide, {tuple(int(k == at) for k in range(wide)): form[at] for at in range(wide)})


def is_slow_unswayed(one, poly):
    """Whether all tables, not only some, leave poly as it is."""
    return all(slow_led(poly, each) == poly for each in one.tables)


def telling_of(call, *args, **more):
    """What a call raises, as the name of its error and its attributes."""
    try:
        call(*args, **more)
    except ValueError as error:
        return (type(error).__name__,) + tuple(vars(error).values())
    return None


class ToolCase(unittest.TestCase):
    def refused(self, told, call, *args, **more):
        """The call raises the error with this name, and with these attributes, no other one."""
        self.assertEqual(telling_of(call, *args, **more), told)

    def unchanged(self, call, *args):
        """The call changes none of its arguments; returns what it returns twice, equal and not the same list."""
        before = repr([shown(one) for one in args])
        first = call(*args)
        self.assertEqual(repr([shown(one) for one in args]), before)
        second = call(*args)
        self.assertEqual(first, second)
        if isinstance(first, (list, dict)):
            self.assertIsNot(first, second)
        return first


def shown(thing):
    """A value with all that its objects hold."""
    if isinstance(thing, (list, tuple)):
        return [shown(item) for item in thing]
    if isinstance(thing, dict):
        return [(shown(key), shown(item)) for key, item in thing.items()]
    if hasattr(thing, "__dict__"):
        return [(key, shown(item)) for key, item in vars(thing).items()]
    return thing
