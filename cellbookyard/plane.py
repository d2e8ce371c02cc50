"""The cells of a world, as a list of rows closed to a ring in both directions.

Nothing here changes the rows it is given: new rows are made.
"""

from cellbookyard.bits import bit, ones
from cellbookyard.rules import summed_places

WIDTH = 16
ALL_CELLS = 65535


def triples(row):
    """For each cell of a row the number whose bits are the cells to its left, itself and to its right."""
    ring = (row << 1) | (row >> (WIDTH - 1)) | ((row & 1) << (WIDTH + 1))
    return [(ring >> x) & 7 for x in range(WIDTH)]


def stepped_row(table, above, own, below):
    """What a row becomes, told by the triples of three rows."""
    row = 0
    for x in range(WIDTH):
        if table[above[x] | (own[x] << 3) | (below[x] << 6)] == 1:
            row = row | (1 << x)
    return row


def stepped(rows, table):
    """The rows after one step."""
    count = len(rows)
    seen = [triples(row) for row in rows]
    return [stepped_row(table, seen[(y - 1) % count], seen[y], seen[(y + 1) % count]) for y in range(count)]


def stepped_often(rows, table, n):
    """The rows after n steps, one by one."""
    for done in range(n):
        rows = stepped(rows, table)
    return rows


def seen_from(row, i):
    """The row whose cell x is cell x + i of this one."""
    far = i % WIDTH
    return ((row >> far) | (row << (WIDTH - far))) & ALL_CELLS


def summed(rows, places, far):
    """The rows in which each cell is the sum of those at the places, each taken `far` times as far away."""
    count = len(rows)
    made = []
    for y in range(count):
        row = 0
        for i, j in places:
            row = row ^ seen_from(rows[(y + j * far) % count], i * far)
        made.append(row)
    return made


def leapt(rows, table, n):
    """The rows after n steps by a rule that is a sum.

    Two such steps add up every pair of places; the pairs of two different places come twice and vanish,
    so what is left is each place twice as far away. Hence 1, 2, 4, .. steps are each one sum.
    """
    places = summed_places(table)
    far = 1
    while n > 0:
        if n & 1 == 1:
            rows = summed(rows, places, far)
        far = far * 2
        n = n >> 1
    return rows


def facts_of(rows):
    """How many cells are 1, and if some are, the least and greatest x and y of these."""
    count = sum([ones(row) for row in rows])
    if count == 0:
        return [0]
    xs = [x for x in range(WIDTH) if any([bit(row, x) == 1 for row in rows])]
    ys = [y for y, row in enumerate(rows) if row != 0]
    return [count, min(xs), max(xs), min(ys), max(ys)]
