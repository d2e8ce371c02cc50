"""Rows shifted, flipped, turned and laid over one another.

Nothing here changes the rows it is given: new rows are made.
"""

from cellbookyard.bits import bit
from cellbookyard.plane import ALL_CELLS, WIDTH, seen_from


def shifted(rows, dx, dy):
    """The rows in which cell (x, y) has gone to (x + dx, y + dy)."""
    count = len(rows)
    return [seen_from(rows[(y - dy) % count], -dx) for y in range(count)]


def mirrored(row):
    """The row in which cell x has gone to 15 - x."""
    made = 0
    for x in range(WIDTH):
        made = (made << 1) | bit(row, x)
    return made


def flipped_across(rows):
    """The rows in which cell (x, y) has gone to (15 - x, y)."""
    return [mirrored(row) for row in rows]


def flipped_down(rows):
    """The rows in which cell (x, y) has gone to (x, R - 1 - y)."""
    return list(reversed(rows))


def column(rows, x):
    """The cells x of all rows as one row, that of the last row being cell 0."""
    made = 0
    for row in rows:
        made = (made << 1) | bit(row, x)
    return made


def turned(rows):
    """The 16 rows in which cell (x, y) has gone to (15 - y, x)."""
    return [column(rows, x) for x in range(WIDTH)]


def merged_row(own, other, f):
    """The row in which each cell is bit 2 a + b of f, a being the own cell there and b the other one's."""
    not_own = own ^ ALL_CELLS
    not_other = other ^ ALL_CELLS
    cases = [not_own & not_other, not_own & other, own & not_other, own & other]
    made = 0
    for place, cells in enumerate(cases):
        if bit(f, place) == 1:
            made = made | cells
    return made


def merged(rows, others, f):
    """The rows of two worlds with as many rows, laid over one another."""
    return [merged_row(own, other, f) for own, other in zip(rows, others)]
