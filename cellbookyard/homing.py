"""After how many steps, and where, a world comes home."""

from cellbookyard.moves import shifted
from cellbookyard.plane import WIDTH, stepped


def shifts_of(rows):
    """For all that the rows are when shifted: by which (dx, dy), of several the least dy, then the least dx."""
    shifts = {}
    for dy in range(len(rows)):
        for dx in range(WIDTH):
            shifts.setdefault(tuple(shifted(rows, dx, dy)), (dx, dy))
    return shifts


def way_home(rows, table, most):
    """The least n from 1 to most after which the rows are shifted ones, with dx and dy; None if there's none."""
    shifts = shifts_of(rows)
    for n in range(1, most + 1):
        rows = stepped(rows, table)
        shift = shifts.get(tuple(rows))
        if shift is not None:
            return [n, shift[0], shift[1]]
    return None
