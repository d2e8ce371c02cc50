"""A book of four worlds, and what it answers to a list of calls."""

from cellbookyard.calls import act
from cellbookyard.reader import Reader
from cellbookyard.world import World

BEGIN = 1
WORLDS = 4
MOST_ROWS = 16
BEGUN = 0
NOT_TO_BEGIN = -1
NO_WORLD = -4


class Book:
    """Four worlds, none of them begun at first."""

    def __init__(self):
        self.worlds = [None] * WORLDS

    def begin(self, name, count):
        """begin: a new world in the place of the one that may be there."""
        if name >= WORLDS or count < 1 or count > MOST_ROWS:
            return [NOT_TO_BEGIN]
        self.worlds[name] = World(count)
        return [BEGUN]

    def answer(self, number, told):
        """What is answered to one call."""
        name = told[0]
        if number == BEGIN:
            return self.begin(name, told[1])
        if name >= WORLDS or self.worlds[name] is None:
            return [NO_WORLD]
        return act(number, self.worlds[name], told[1:])


def answers(calls):
    """For each call, in order, how many numbers are answered, then these."""
    book = Book()
    reader = Reader(calls)
    answered = []
    while reader.has_more():
        number = reader.read_one()
        answer = book.answer(number, reader.read_told(number))
        answered.append(len(answer))
        answered.extend(answer)
    return answered
