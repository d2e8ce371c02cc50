"""What may have come before a small block of a world.

Whether a row fits below a block that is built downwards depends on the block's last two rows alone.
So blocks are gathered by these two: how many there are, and the first of them.
"""

from cellbookyard.bits import bit


def leads(table, above, own, below, wanted, w):
    """Whether three rows of a block lead to the first w cells of the wanted row."""
    for x in range(w):
        hood = ((above >> x) & 7) | (((own >> x) & 7) << 3) | (((below >> x) & 7) << 6)
        if table[hood] != bit(wanted, x):
            return False
    return True


def two_rows(size):
    """All blocks of two rows below size, by these rows."""
    blocks = {}
    for above in range(size):
        for own in range(size):
            blocks[(above, own)] = (1, [above, own])
    return blocks


def gathered(one, other):
    """Two gatherings of blocks as one."""
    return (one[0] + other[0], min(one[1], other[1]))


def one_row_more(blocks, table, wanted, w):
    """The blocks with one more row, so that the last three lead to the wanted row."""
    longer = {}
    for pair, met in blocks.items():
        for below in range(1 << (w + 2)):
            if leads(table, pair[0], pair[1], below, wanted, w):
                ends = (pair[1], below)
                grown = (met[0], met[1] + [below])
                longer[ends] = gathered(longer[ends], grown) if ends in longer else grown
    return longer


def blocks_before(rows, table, w, h):
    """How many blocks lead to the first w cells of the first h rows, and if some do, the rows of the first."""
    blocks = two_rows(1 << (w + 2))
    for y in range(h):
        blocks = one_row_more(blocks, table, rows[y], w)
    if len(blocks) == 0:
        return [0]
    return [sum([met[0] for met in blocks.values()])] + min([met[1] for met in blocks.values()])
