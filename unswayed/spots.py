"""The tables of a house told by their spots in its sequence, so that products need not be worked out twice."""

from unswayed.tables import lines_product, plain_lines


def product_spots(house):
    """For each table the list of the spots of its products with all tables, it first."""
    spots = {table.lines: spot for spot, table in enumerate(house.tables)}
    return [
        [spots[lines_product(one.lines, two.lines, house.wide, house.prime)] for two in house.tables]
        for one in house.tables]


def plain_spot(house):
    """The spot of plain."""
    lines = plain_lines(house.wide)
    return [spot for spot, table in enumerate(house.tables) if table.lines == lines][0]


def made_spots(products, start, few):
    """The ascending tuple of the spots of all products of a few tables; start is the spot of plain."""
    seen = {start: True}
    found = [start]
    at = 0
    while at < len(found):
        for spot in few:
            made = products[found[at]][spot]
            if made not in seen:
                seen[made] = True
                found.append(made)
        at += 1
    return tuple(sorted(found))
