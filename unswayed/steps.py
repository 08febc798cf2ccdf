"""Steps: how the polynomials that an inner house leaves as they are stand over the unswayed ones."""

from unswayed.climbs import climb_to
from unswayed.counting import undone
from unswayed.echelons import tidy_zeros
from unswayed.errors import BadNumber, BadPoly, NoMean, NoStep, TooMany
from unswayed.inner import check_inner, index_of, share_tables
from unswayed.kinds import is_list, is_within
from unswayed.leadings import led, led_lot
from unswayed.packs import MOST_DEGREE, check_rows, pack_of, pack_product, pack_sum
from unswayed.partings import is_unswayed_thing
from unswayed.polys import constant, poly_of_pack, poly_product, poly_scaled, poly_sum

MOST_INDEX = 6


def led_equation(house, poly):
    """The list of the numbers, Polys, of the powers of z in the product of all z - f, f of led_lot."""
    lot = led_lot(house, poly)
    # The one at the power 0 is the product of all f, but for its sign: no other one has a higher degree.
    if poly.degree * len(lot) > MOST_DEGREE:
        raise TooMany(MOST_DEGREE)
    one = constant(house.prime, house.wide, 1)
    told = [one]
    for image in lot:
        less = [poly_scaled(poly_product(part, image), -1) for part in told] + [constant(house.prime, house.wide, 0)]
        told = [poly_sum(part, more) for part, more in zip(less, [constant(house.prime, house.wide, 0)] + told)]
    return told


def check_steps(house, inner, polys):
    """BadPoly unless polys is a list of index_of Polys that inner leaves as they are."""
    if not is_list(polys) or len(polys) != index_of(house, inner):
        raise BadPoly("a list of as many Polys as the index of the inner house is wanted")
    for poly in polys:
        check_kept(inner, poly)


def check_kept(inner, poly):
    """BadPoly unless the value is a Poly that the inner house leaves as it is."""
    if not is_unswayed_thing(inner, poly):
        raise BadPoly("a Poly that the inner house leaves as it is is wanted")


def step_poly(house, inner, polys):
    """The determinant of what the tables of share_tables lead the Polys to."""
    check_inner(house, inner)
    check_steps(house, inner, polys)
    check_index(house, inner)
    return step_of(house, share_tables(house, inner), polys)


def check_index(house, inner):
    """TooMany(6) if the index of the inner house is above 6."""
    if index_of(house, inner) > MOST_INDEX:
        raise TooMany(MOST_INDEX)


def step_of(house, tables, polys):
    """What step_poly tells, tables being those of share_tables; TooMany(120) if one of its products is too high."""
    degrees = [poly.degree for poly in polys]
    if min(degrees) < 0:
        return constant(house.prime, house.wide, 0)
    if sum(degrees) > MOST_DEGREE:
        raise TooMany(MOST_DEGREE)
    lines = [[pack_of(led(poly, table).terms) for table in tables] for poly in polys]
    return poly_of_pack(house.prime, house.wide, pack_determinant(lines, house.prime))


def pack_determinant(lines, prime):
    """The determinant of a square list of lists of packs."""
    # For each lot of columns, as the bits of a number, the determinant of the first lines there.
    minors = {0: {0: 1}}
    for line in lines:
        more = {}
        for lot, minor in minors.items():
            for place, pack in enumerate(line):
                if not (lot >> place) & 1:
                    part = pack_product(minor, pack, prime)
                    key = lot | (1 << place)
                    more[key] = pack_sum(more.get(key, {}), signed_pack(part, lot >> place), prime)
        minors = more
    return minors[(1 << len(lines)) - 1]


def signed_pack(pack, lot):
    """The pack, with its sign changed if the number of bits of lot is odd."""
    many = sum([(lot >> place) & 1 for place in range(lot.bit_length())])
    return {whole: -number for whole, number in pack.items()} if many & 1 else pack


def is_step(house, inner, polys):
    """Whether step_poly is not 0."""
    return step_poly(house, inner, polys).degree >= 0


def step_told(house, inner, polys, poly):
    """The list of unswayed Polys whose products with polys sum up to poly times the square of step_poly."""
    check_inner(house, inner)
    check_steps(house, inner, polys)
    check_kept(inner, poly)
    check_index(house, inner)
    tables = share_tables(house, inner)
    step = step_of(house, tables, polys)
    if step.degree < 0:
        raise NoStep("the Polys make no step")
    others = list(polys)
    steps = [step_of(house, tables, others[:at] + [poly] + others[at + 1:]) for at in range(len(others))]
    # TooMany(120) for one of these products is that of poly_product.
    return [poly_product(step, other) for other in steps]


def mean_over(house, inner, poly):
    """The sum of what the tables of share_tables lead poly to, times the number that undoes the index."""
    check_inner(house, inner)
    check_kept(inner, poly)
    check_share_mean(house, inner)
    total = constant(house.prime, house.wide, 0)
    for table in share_tables(house, inner):
        total = poly_sum(total, led(poly, table))
    return poly_scaled(total, undone(index_of(house, inner), house.prime))


def check_share_mean(house, inner):
    """NoMean if the prime divides the index of the inner house."""
    if index_of(house, inner) % house.prime == 0:
        raise NoMean("the prime divides the index of the inner house")


def more_of(house, inner, degree):
    """The tidy list of the level Polys of this degree that inner leaves as they are and whose mean_over is 0."""
    check_inner(house, inner)
    if not is_within(degree, 0, MOST_DEGREE):
        raise BadNumber("degree")
    check_share_mean(house, inner)
    check_rows(house.wide, degree)
    tables = [table.lines for table in share_tables(house, inner)]
    shares = climb_to(house.prime, house.wide, tables, degree)
    climb = climb_to(house.prime, house.wide, [table.lines for table in inner.few], degree)
    equations = climb.equations()
    for at in range(len(climb.rows)):
        columns = [[image[at] for image in images] for images in shares.images]
        equations.append([sum(numbers) for numbers in zip(*columns)])
    return [climb.poly(numbers) for numbers in tidy_zeros(house.prime, len(climb.rows), equations)]
