"""Worlds as short texts, which are lists of bytes."""

from cellbookyard.plane import WIDTH

# The bytes of ! $ 0 9 b o
END = 33
ROWS_ON = 36
FIRST_DIGIT = 48
LAST_DIGIT = 57
ZEROS = 98
ONES = 111

MOST_BYTES = 2000
MOST_NUMBER = 99999


def token(number, letter):
    """The shortest way to tell so many of a letter; none are told by nothing."""
    if number == 0:
        return []
    if number == 1:
        return [letter]
    return [ord(digit) for digit in str(number)] + [letter]


def run_length(row, value):
    """How many cells from cell 0 on have the value, up to the last cell that is 1."""
    count = 0
    while row > 0 and row & 1 == value:
        count += 1
        row = row >> 1
    return count


def row_text(row):
    """The tokens of a row, up to its last cell that is 1."""
    told = []
    while row > 0:
        zeros = run_length(row, 0)
        ones = run_length(row >> zeros, 1)
        told.extend(token(zeros, ZEROS) + token(ones, ONES))
        row = row >> (zeros + ones)
    return told


def text_of(rows):
    """The world's text."""
    told = []
    told_to = 0
    for y, row in enumerate(rows):
        if row > 0:
            told.extend(token(y - told_to, ROWS_ON) + row_text(row))
            told_to = y
    return told + [END]


def is_digit(sign, number):
    """Whether a byte goes on with the number that was told up to it, 0 being none: a leading 0 does not."""
    return FIRST_DIGIT <= sign <= LAST_DIGIT and (sign > FIRST_DIGIT or number > 0)


def tokens_of(text):
    """The tokens before the ! as pairs of number and letter, or None if the text is none."""
    if len(text) == 0 or text[-1] != END:
        return None
    tokens = []
    number = 0
    for sign in text[:-1]:
        if sign in (ZEROS, ONES, ROWS_ON):
            tokens.append((max(number, 1), sign))
            number = 0
        elif is_digit(sign, number):
            number = number * 10 + sign - FIRST_DIGIT
        else:
            return None
        if number > MOST_NUMBER:
            return None
    return tokens if number == 0 else None


def rows_of(tokens, count):
    """The rows that the tokens tell, or None if they don't fit into so many rows."""
    rows = [0] * count
    x = 0
    y = 0
    for number, letter in tokens:
        if letter == ROWS_ON:
            x = 0
            y += number
        elif y < count and x + number <= WIDTH:
            if letter == ONES:
                rows[y] = rows[y] | (((1 << number) - 1) << x)
            x += number
        else:
            return None
        if y > count:
            return None
    return rows


def rows_of_text(text, count):
    """The rows of a world of so many rows that a text tells, or None if it's no text of such a world."""
    tokens = tokens_of(text)
    return None if tokens is None else rows_of(tokens, count)
