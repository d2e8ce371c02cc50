"""A book of four worlds, and what it answers to a list of calls."""

from cellbookyard.calls import act
from cellbookyard.pairs import act_on_two, names_two
from cellbookyard.reader import Reader
from cellbookyard.replies import DONE, NO_WORLD, OUT_OF_BOUNDS
from cellbookyard.world import World

BEGIN = 1
WORLDS = 4
MOST_ROWS = 16


class Book:
    """Four worlds, none of them begun at first."""

    def __init__(self):
        self.worlds = [None] * WORLDS

    def begin(self, name, count):
        """begin: a new world in the place of the one that may be there."""
        if name >= WORLDS or count < 1 or count > MOST_ROWS:
            return [OUT_OF_BOUNDS]
        self.worlds[name] = World(count)
        return [DONE]

    def has_begun(self, name):
        """Whether there is such a world and it is begun."""
        return name < WORLDS and self.worlds[name] is not None

    def answer(self, number, told):
        """What is answered to one call."""
        if number == BEGIN:
            return self.begin(told[0], told[1])
        if names_two(number):
            return self.answer_on_two(number, told)
        if not self.has_begun(told[0]):
            return [NO_WORLD]
        return act(number, self.worlds[told[0]], told[1:])

    def answer_on_two(self, number, told):
        """What is answered to a call that names two worlds."""
        if not self.has_begun(told[1]) or not self.has_begun(told[0]):
            return [NO_WORLD]
        return act_on_two(number, self.worlds[told[0]], self.worlds[told[1]], told[2:])


def answers(calls):
    """For each call, in order, how many numbers are answered, then these."""
    book = Book()
    reader = Reader(calls)
    answered = []
    while reader.has_more():
        number = reader.read_one()
        answer = book.answer(number, reader.read_told(number))
        answered.append(len(answer))
        answered.extend(answer)
    return answered
