"""The calls on two worlds that are begun.

Each takes both worlds and the list of what is told behind their numbers,
and gives back the list of the numbers that are answered.
"""

from cellbookyard.moves import merged
from cellbookyard.replies import DONE, OUT_OF_BOUNDS, UNFIT
from cellbookyard.shapes import places_of

WIDEST_SHAPE = 8


def merge(world, second, told):
    """with: the second world laid over the first."""
    if len(world.rows) != len(second.rows):
        return [UNFIT]
    world.rows = merged(world.rows, second.rows, told[0])
    return [DONE]


def tell_same(world, second, told):
    """same: whether all cells are alike."""
    if len(world.rows) != len(second.rows):
        return [UNFIT]
    return [1 if world.rows == second.rows else 0]


def find_shape(world, second, told):
    """find: the places of the first world that have the second one's shape."""
    w = told[0]
    h = told[1]
    k = told[2]
    highest = min(WIDEST_SHAPE, len(world.rows), len(second.rows))
    if w < 1 or w > WIDEST_SHAPE or h < 1 or h > highest:
        return [OUT_OF_BOUNDS]
    places = places_of(world.rows, second.rows, w, h)
    found = list(places[k]) if k < len(places) else []
    return [DONE, len(places)] + found


PAIR_ACTIONS = {
    14: merge,
    15: tell_same,
    16: find_shape,
}


def names_two(number):
    """Whether the call of this number names two worlds."""
    return number in PAIR_ACTIONS


def act_on_two(number, world, second, told):
    """What the call of this number answers."""
    return PAIR_ACTIONS[number](world, second, told)
