"""The calls on a world that is begun.

Each takes the world and the list of what is told behind the world's number,
and gives back the list of the numbers that are answered.
"""

from cellbookyard.bits import bit
from cellbookyard.plane import ALL_CELLS, WIDTH, facts_of, leapt, stepped_often
from cellbookyard.rules import TABLE_BYTES, counting_table, is_sum, table_of_bytes

DONE = 0
NO_SUCH_PLACE = -1
UNFIT = -2
TOO_MUCH = -3
MOST_STEPS = 500


def take_rule(world, told):
    """rule: the table that is told in bytes."""
    listed = told[0]
    if len(listed) != TABLE_BYTES:
        return [UNFIT]
    world.table = table_of_bytes(listed)
    return [DONE]


def take_counts(world, told):
    """counts: the counting rule."""
    world.table = counting_table(told[0], told[1])
    return [DONE]


def tell_rows(world, told):
    """rows: all rows of the world."""
    return [DONE] + world.rows


def put_row(world, told):
    """put: a whole row."""
    y = told[0]
    row = told[1]
    if not world.has_row(y) or row > ALL_CELLS:
        return [NO_SUCH_PLACE]
    world.rows[y] = row
    return [DONE]


def tell_cell(world, told):
    """cell: one cell."""
    x = told[0]
    y = told[1]
    if x >= WIDTH or not world.has_row(y):
        return [NO_SUCH_PLACE]
    return [bit(world.rows[y], x)]


def set_cell(world, told):
    """set: one cell becomes 1 or 0."""
    x = told[0]
    y = told[1]
    if x >= WIDTH or not world.has_row(y):
        return [NO_SUCH_PLACE]
    emptied = world.rows[y] & (ALL_CELLS ^ (1 << x))
    world.rows[y] = emptied if told[2] == 0 else emptied | (1 << x)
    return [DONE]


def take_steps(world, told):
    """steps: so many steps, one by one."""
    n = told[0]
    if n > MOST_STEPS:
        return [TOO_MUCH]
    world.rows = stepped_often(world.rows, world.table, n)
    return [DONE]


def take_leap(world, told):
    """leap: any number of steps by a rule that is a sum."""
    if not is_sum(world.table):
        return [UNFIT]
    world.rows = leapt(world.rows, world.table, told[0])
    return [DONE]


def tell_facts(world, told):
    """facts: how many cells are 1, and within which bounds."""
    return [DONE] + facts_of(world.rows)


ACTIONS = {
    2: take_rule,
    3: take_counts,
    4: tell_rows,
    5: put_row,
    6: tell_cell,
    7: set_cell,
    8: take_steps,
    9: take_leap,
    10: tell_facts,
}


def act(number, world, told):
    """What the call of this number answers."""
    return ACTIONS[number](world, told)
