"""The calls on one world that is begun.

Each takes the world and the list of what is told behind the world's number,
and gives back the list of the numbers that are answered.
"""

from cellbookyard.bits import bit
from cellbookyard.homing import way_home
from cellbookyard.moves import flipped_across, flipped_down, shifted, turned
from cellbookyard.past import blocks_before
from cellbookyard.plane import ALL_CELLS, WIDTH, facts_of, leapt, stepped_often
from cellbookyard.replies import DONE, NONE_FOUND, OUT_OF_BOUNDS, TOO_MUCH, UNFIT
from cellbookyard.rules import TABLE_BYTES, counting_table, is_sum, table_of_bytes
from cellbookyard.texts import MOST_BYTES, rows_of_text, text_of

MOST_STEPS = 500
MOST_STEPS_HOME = 64
WIDEST_BLOCK = 2


def take_rule(world, told):
    """rule: the table that is told in bytes."""
    listed = told[0]
    if len(listed) != TABLE_BYTES:
        return [UNFIT]
    world.table = table_of_bytes(listed)
    return [DONE]


def take_counts(world, told):
    """counts: the counting rule."""
    world.table = counting_table(told[0], told[1])
    return [DONE]


def tell_rows(world, told):
    """rows: all rows of the world."""
    return [DONE] + world.rows


def put_row(world, told):
    """put: a whole row."""
    y = told[0]
    row = told[1]
    if not world.has_row(y) or row > ALL_CELLS:
        return [OUT_OF_BOUNDS]
    world.rows[y] = row
    return [DONE]


def tell_cell(world, told):
    """cell: one cell."""
    x = told[0]
    y = told[1]
    if x >= WIDTH or not world.has_row(y):
        return [OUT_OF_BOUNDS]
    return [bit(world.rows[y], x)]


def set_cell(world, told):
    """set: one cell becomes 1 or 0."""
    x = told[0]
    y = told[1]
    if x >= WIDTH or not world.has_row(y):
        return [OUT_OF_BOUNDS]
    emptied = world.rows[y] & (ALL_CELLS ^ (1 << x))
    world.rows[y] = emptied if told[2] == 0 else emptied | (1 << x)
    return [DONE]


def take_steps(world, told):
    """steps: so many steps, one by one."""
    n = told[0]
    if n > MOST_STEPS:
        return [TOO_MUCH]
    world.rows = stepped_often(world.rows, world.table, n)
    return [DONE]


def take_leap(world, told):
    """leap: any number of steps by a rule that is a sum."""
    if not is_sum(world.table):
        return [UNFIT]
    world.rows = leapt(world.rows, world.table, told[0])
    return [DONE]


def tell_facts(world, told):
    """facts: how many cells are 1, and within which bounds."""
    return [DONE] + facts_of(world.rows)


def shift_cells(world, told):
    """shift: all cells by so much."""
    world.rows = shifted(world.rows, told[0], told[1])
    return [DONE]


def flip_cells(world, told):
    """flip: left and right, or top and bottom, change places."""
    how = told[0]
    if how > 1:
        return [OUT_OF_BOUNDS]
    world.rows = flipped_across(world.rows) if how == 0 else flipped_down(world.rows)
    return [DONE]


def turn_cells(world, told):
    """turn: a quarter round, where there are as many rows as cells in a row."""
    if len(world.rows) != WIDTH:
        return [UNFIT]
    world.rows = turned(world.rows)
    return [DONE]


def tell_home(world, told):
    """home: after how many steps, and where, the world comes home."""
    most = told[0]
    if most > MOST_STEPS_HOME:
        return [TOO_MUCH]
    found = way_home(world.rows, world.table, most)
    return [NONE_FOUND] if found is None else [DONE] + found


def tell_before(world, told):
    """before: the blocks that lead to the world's block."""
    w = told[0]
    h = told[1]
    if w < 1 or w > WIDEST_BLOCK or h < 1 or h > min(WIDEST_BLOCK, len(world.rows)):
        return [OUT_OF_BOUNDS]
    return [DONE] + blocks_before(world.rows, world.table, w, h)


def write_text(world, told):
    """write: the world's text."""
    return [DONE] + text_of(world.rows)


def read_text(world, told):
    """read: the cells that a text tells."""
    text = told[0]
    if len(text) > MOST_BYTES:
        return [TOO_MUCH]
    rows = rows_of_text(text, len(world.rows))
    if rows is None:
        return [UNFIT]
    world.rows = rows
    return [DONE]


ACTIONS = {
    2: take_rule,
    3: take_counts,
    4: tell_rows,
    5: put_row,
    6: tell_cell,
    7: set_cell,
    8: take_steps,
    9: take_leap,
    10: tell_facts,
    11: shift_cells,
    12: flip_cells,
    13: turn_cells,
    17: tell_home,
    18: tell_before,
    19: write_text,
    20: read_text,
}


def act(number, world, told):
    """What the call of this number answers."""
    return ACTIONS[number](world, told)
