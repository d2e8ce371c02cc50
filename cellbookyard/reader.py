"""Reading calls from the list of numbers in which they stand one behind another."""

# How many whole numbers stand behind each call's own number, the world's among them.
PLAIN_NUMBERS = {
    1: 2, 2: 1, 3: 3, 4: 1, 5: 3, 6: 3, 7: 4, 8: 2, 9: 2, 10: 1,
    11: 3, 12: 2, 13: 1, 14: 3, 15: 2, 16: 5, 17: 2, 18: 3, 19: 1, 20: 1,
}

# The calls behind whose whole numbers a row stands, with how many numbers it has before it.
WITH_ROW = (2, 20)


class Reader:
    """A list of numbers and the place up to which it has been read."""

    def __init__(self, numbers):
        self.numbers = numbers
        self.place = 0

    def has_more(self):
        """Whether something is left to be read."""
        return self.place < len(self.numbers)

    def read_one(self):
        """The number that comes next."""
        self.place += 1
        return self.numbers[self.place - 1]

    def read_several(self, count):
        """A new list of the numbers that come next."""
        self.place += count
        return self.numbers[self.place - count:self.place]

    def read_told(self, number):
        """What is told behind a call's number: its whole numbers, then its row as one list."""
        told = self.read_several(PLAIN_NUMBERS[number])
        if number in WITH_ROW:
            told.append(self.read_several(self.read_one()))
        return told
