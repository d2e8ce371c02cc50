"""Rules: tables of 512 bits, one for each neighbourhood, kept as lists of 0 and 1."""

from cellbookyard.bits import bit, ones

NEIGHBOURHOODS = 512
TABLE_BYTES = 64
NEIGHBOURS = 9
OWN = 4


def still_table():
    """The rule by which every cell stays what it is."""
    return [bit(hood, OWN) for hood in range(NEIGHBOURHOODS)]


def table_of_bytes(listed):
    """The rule that 64 bytes tell, eight neighbourhoods to a byte."""
    return [bit(listed[hood // 8], hood % 8) for hood in range(NEIGHBOURHOODS)]


def counted(hood, born, stays):
    """What the counting rule makes of the cell in the middle of a neighbourhood."""
    own = bit(hood, OWN)
    around = ones(hood) - own
    return bit(stays, around) if own == 1 else bit(born, around)


def counting_table(born, stays):
    """The counting rule of born and stays."""
    return [counted(hood, born, stays) for hood in range(NEIGHBOURHOODS)]


def is_sum(table):
    """Whether the bit of the exclusive or of any two neighbourhoods is the exclusive or of their bits.

    It is enough to ask this of each neighbourhood's lowest 1 and all its others:
    then every bit is the exclusive or of the bits of its single cells.
    For neighbourhood 0 both parts are 0, which asks that its bit be 0.
    """
    for hood in range(NEIGHBOURHOODS):
        others = hood & (hood - 1)
        if table[hood] != table[others] ^ table[hood ^ others]:
            return False
    return True


def summed_places(table):
    """Where, as (i, j) seen from the cell, the cells are that a rule that is a sum adds up."""
    return [(place % 3 - 1, place // 3 - 1) for place in range(NEIGHBOURS) if table[1 << place] == 1]
