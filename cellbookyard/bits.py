"""Questions about the bits of whole numbers."""


def bit(number, place):
    """Bit `place` of a number, the lowest being bit 0."""
    return (number >> place) & 1


def ones(number):
    """How many bits of a number are 1."""
    count = 0
    while number > 0:
        count += number & 1
        number = number >> 1
    return count
