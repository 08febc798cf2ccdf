"""Arithmetic of far numbers, told by tuples, and the search for the modulus of a wide field.

A far number (a0, a1, ..) stands for a0 + a1 * t + .., and a modulus (m0, m1, ..)
says that t ** degree is -(m0 + m1 * t + ..).
"""

from unswayed.counting import undone


def far_times(one, other, modulus, prime):
    """The product of two far numbers."""
    degree = len(modulus)
    whole = [0] * (2 * degree - 1)
    for at, number in enumerate(one):
        if number:
            for place, factor in enumerate(other, start=at):
                whole[place] += number * factor
    taps = [(place, number) for place, number in enumerate(modulus) if number]
    for top in range(2 * degree - 2, degree - 1, -1):
        number = whole[top] % prime
        if number:
            for place, factor in taps:
                whole[top - degree + place] -= number * factor
    return tuple([number % prime for number in whole[:degree]])


def far_many(one, times, modulus, prime):
    """The product of so many factors one; times may be any number from 0 on."""
    total = far_plain(1, len(modulus))
    factor = one
    left = times
    while left > 0:
        if left & 1:
            total = far_times(total, factor, modulus, prime)
        left = left >> 1
        if left > 0:
            factor = far_times(factor, factor, modulus, prime)
    return total


def far_plain(number, degree):
    """The far number that is a number of the field."""
    return (number,) + (0,) * (degree - 1)


def far_plus(one, other, prime):
    """The sum of two far numbers."""
    return tuple([(x + y) % prime for x, y in zip(one, other)])


def least_modulus(prime, degree):
    """The least modulus of this degree that is no product of two polynomials of lesser degrees."""
    if degree == 1:
        return (0,)
    # With 0 as its first number t would be a factor.
    modulus = (1,) + (0,) * (degree - 1)
    while has_factor(modulus, prime):
        modulus = next_numbers(modulus, prime)
    return modulus


def next_numbers(numbers, prime):
    """The tuple of numbers from 0 to prime - 1 that comes next, ascending."""
    spot = len(numbers) - 1
    while numbers[spot] == prime - 1:
        spot -= 1
    return numbers[:spot] + (numbers[spot] + 1,) + (0,) * (len(numbers) - spot - 1)


def has_factor(modulus, prime):
    """Whether the polynomial of a modulus of degree 2 or above is a product of two of lesser degrees."""
    degree = len(modulus)
    letter = (0, 1) + (0,) * (degree - 2)
    power = letter
    # The irreducible polynomials of degree k and its divisors are the factors of t ** (prime ** k) - t.
    for _ in range(degree // 2):
        power = far_many(power, prime, modulus, prime)
        gap = [x - y for x, y in zip(power, letter)]
        if len(common_factor(list(modulus) + [1], gap, prime)) > 1:
            return True
    return False


def common_factor(one, other, prime):
    """The greatest common factor of two polynomials in t, as lists of numbers, the last one not 0."""
    above = without_tops(one, prime)
    below = without_tops(other, prime)
    while below:
        rest = rest_of_division(above, below, prime)
        above = below
        below = rest
    return above


def rest_of_division(one, other, prime):
    """What is left of one when it is divided by other."""
    rest = list(one)
    factor = undone(other[-1], prime)
    while len(rest) >= len(other):
        number = rest[-1] * factor
        start = len(rest) - len(other)
        for place, value in enumerate(other, start=start):
            rest[place] = (rest[place] - number * value) % prime
        rest = without_tops(rest, prime)
    return rest


def without_tops(numbers, prime):
    """The numbers modulo prime, without the zeros at the end."""
    reduced = [number % prime for number in numbers]
    while reduced and reduced[-1] == 0:
        reduced.pop()
    return reduced
