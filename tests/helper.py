"""What the tests share: calls as lists of numbers, answers split call by call, steps and moves told anew.

Steps and moves here follow the document's words cell by cell, and use nothing of the package but `answers`.
"""

import random

from cellbookyard.book import answers

TOP = 4294967295
LEAP_TOP = 18446744073709551615
SHIFT_LEAST = -2147483648
SHIFT_TOP = 2147483647
LIFE = (8, 12)
OWN_BIT = 4


def begin(world, r):
    return [1, world, r]


def rule(world, table):
    return [2, world, len(table)] + list(table)


def counts(world, born, stays):
    return [3, world, born, stays]


def rows(world):
    return [4, world]


def put(world, y, row):
    return [5, world, y, row]


def cell(world, x, y):
    return [6, world, x, y]


def set_to(world, x, y, to):
    return [7, world, x, y, to]


def steps(world, n):
    return [8, world, n]


def leap(world, n):
    return [9, world, n]


def facts(world):
    return [10, world]


def shift(world, dx, dy):
    return [11, world, dx, dy]


def flip(world, how):
    return [12, world, how]


def turn(world):
    return [13, world]


def with_other(world, second, f):
    return [14, world, second, f]


def same(world, second):
    return [15, world, second]


def find(world, second, w, h, k):
    return [16, world, second, w, h, k]


def home(world, most):
    return [17, world, most]


def before(world, w, h):
    return [18, world, w, h]


def write(world):
    return [19, world]


def read(world, text):
    """text: its signs, or its bytes as a list."""
    listed = [ord(sign) for sign in text] if isinstance(text, str) else text
    return [20, world, len(listed)] + listed


def made(world, cells):
    """The calls that begin a world and give it these rows."""
    return [begin(world, len(cells))] + [put(world, y, row) for y, row in enumerate(cells)]


def line(calls):
    """The calls one behind another."""
    return [number for call in calls for number in call]


def split(answered):
    """The answers, a list for each call."""
    parts = []
    at = 0
    while at < len(answered):
        parts.append(answered[at + 1:at + 1 + answered[at]])
        at += 1 + answered[at]
    return parts


def ask(calls):
    """What is answered to a list of calls, a list for each."""
    parts = split(answers(line(calls)))
    if len(parts) != len(calls):
        raise ValueError(f"{len(calls)} calls, {len(parts)} answers")
    return parts


def last(calls):
    """What is answered to the last of the calls."""
    return ask(calls)[-1]


def after(cells, calls):
    """The rows of world 0, made of these cells, after some calls, which are all to be done."""
    told = ask(made(0, cells) + calls + [rows(0)])
    if told[:-1] != [[0]] * (len(told) - 1):
        raise ValueError(f"refused: {told}")
    return told[-1][1:]


def cell_of(cells, x, y):
    return (cells[y % len(cells)] >> (x % 16)) & 1


def neighbourhood(cells, x, y):
    number = 0
    for j in (-1, 0, 1):
        for i in (-1, 0, 1):
            number += cell_of(cells, x + i, y + j) << (3 * (j + 1) + (i + 1))
    return number


def table_bit(table, t):
    return (table[t // 8] >> (t % 8)) & 1


def rows_by(cells, becomes):
    """The rows in which cell (x, y) is becomes(x, y)."""
    return [sum(becomes(x, y) << x for x in range(16)) for y in range(len(cells))]


def step_by_table(cells, table):
    return rows_by(cells, lambda x, y: table_bit(table, neighbourhood(cells, x, y)))


def step_by_counts(cells, born, stays):
    def becomes(x, y):
        around = [(i, j) for j in (-1, 0, 1) for i in (-1, 0, 1) if (i, j) != (0, 0)]
        c = sum(cell_of(cells, x + i, y + j) for i, j in around)
        return ((stays if cell_of(cells, x, y) else born) >> c) & 1
    return rows_by(cells, becomes)


def moved(cells, goes_to):
    """The rows in which each cell (x, y) has gone to goes_to(x, y), taken around."""
    result = [0] * len(cells)
    for y in range(len(cells)):
        for x in range(16):
            to_x, to_y = goes_to(x, y)
            result[to_y % len(cells)] += cell_of(cells, x, y) << (to_x % 16)
    return result


def shifted(cells, dx, dy):
    return moved(cells, lambda x, y: (x + dx, y + dy))


def table_by(bit_of):
    """The 64 bytes of the rule whose bit t is bit_of(t)."""
    return [sum(bit_of(8 * k + b) << b for b in range(8)) for k in range(64)]


def sum_table(mask):
    """The rule that adds up the cells at the 1s of mask: a sum."""
    return table_by(lambda t: bin(t & mask).count("1") % 2)


def with_bit_turned(table, t):
    """The same rule but for bit t."""
    turned = list(table)
    turned[t // 8] ^= 1 << (t % 8)
    return turned


def some_rows(seed, r):
    source = random.Random(seed)
    return [source.randrange(65536) for y in range(r)]


def some_table(seed):
    source = random.Random(seed)
    return [source.randrange(256) for k in range(64)]
