"""Finding a shape in the rows of a world."""

from cellbookyard.plane import WIDTH, seen_from


def has_shape(rows, x, y, shape, mask):
    """Whether the cells from place (x, y) on, as far as the mask goes, are those of the shape's rows."""
    for j, wanted in enumerate(shape):
        if seen_from(rows[(y + j) % len(rows)], x) & mask != wanted:
            return False
    return True


def places_of(rows, others, w, h):
    """The places, in order of y, then of x, that have the shape of the other rows' first w cells and h rows."""
    mask = (1 << w) - 1
    shape = [row & mask for row in others[:h]]
    places = []
    for y in range(len(rows)):
        places.extend([(x, y) for x in range(WIDTH) if has_shape(rows, x, y, shape, mask)])
    return places
