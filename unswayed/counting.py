"""Powers and inverses of whole numbers, and rows of them."""


def power_of(number, times):
    """The product of so many factors number; times may be any number from 0 on."""
    total = 1
    factor = number
    left = times
    while left > 0:
        if left & 1:
            total = total * factor
        left = left >> 1
        if left > 0:
            factor = factor * factor
    return total


def undone(number, prime):
    """The number from 1 to prime - 1 whose product with number is 1 modulo prime."""
    found = 1
    while found * number % prime != 1:
        found += 1
    return found


def all_points(prime, wide):
    """The ascending list of all tuples of wide numbers from 0 to prime - 1."""
    points = [()]
    for _ in range(wide):
        points = [point + (number,) for point in points for number in range(prime)]
    return points
