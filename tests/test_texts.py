"""write and read: each as told (P1), and P4."""

import random
import re
import unittest

from helper import (
    LIFE, TOP, after, ask, begin, cell_of, counts, last, made, put, read, rows, rule, shift, some_rows, some_table,
    step_by_table, steps, write,
)


def written(cells):
    """The text that write answers, as signs."""
    told = last(made(0, cells) + [write(0)])
    if told[0] != 0:
        raise ValueError(f"refused: {told}")
    return "".join(chr(sign) for sign in told[1:])


def reading(r, text):
    """What read answers, and the rows afterwards, of a world that was full before."""
    told = ask(made(0, [65535] * r) + [read(0, text), rows(0)])
    return told[-2], told[-1][1:]


def sparse_rows(seed, r):
    """Rows of many kinds: zeros, full ones, few and many cells."""
    source = random.Random(seed)
    kinds = (0, 0, 65535, source.randrange(65536), source.randrange(65536) & source.randrange(65536),
             1 << source.randrange(16), 65535 << source.randrange(16) & 65535, 0x5555, 0x8001)
    return [source.choice(kinds) for y in range(r)]


def other_text(source, cells):
    """One of the many texts of these cells."""
    def told(number, letter):
        parts = []
        while number > 0:
            part = source.randint(1, number)
            number -= part
            parts.append((str(part) if part > 1 else source.choice(("", "1"))) + letter)
        return "".join(parts)

    text = ""
    to_tell = max([y for y, row in enumerate(cells) if row], default=0)
    for y in range(source.randint(to_tell, len(cells) - 1) + 1):
        x = 0
        row = ""
        while cells[y] >> x:
            run = 1
            while x + run < 16 and cell_of(cells, x, y) == cell_of(cells, x + run, y):
                run += 1
            row += told(run, "bo"[cell_of(cells, x, y)])
            x += run
        row += told(source.randint(0, 16 - x) if x < 16 else 0, "b")
        text += row + source.choice(("$", "1$"))
    return text + "!"


def rows_told(r, text):
    """The rows of a text, or None, told anew: by one pattern for the form, then cell by cell."""
    if not re.fullmatch(r"(([1-9][0-9]{0,4})?[bo$])*!", text):
        return None
    cells = {}
    x = y = 0
    for number, letter in re.findall(r"([0-9]*)([bo$])", text):
        for k in range(int(number or "1")):
            if letter == "$":
                x, y = 0, y + 1
                if y > r:
                    return None
            else:
                if x > 15 or y >= r:
                    return None
                cells[x, y] = int(letter == "o")
                x += 1
    return [sum(cells.get((x, y), 0) << x for x in range(16)) for y in range(r)]


class WriteTest(unittest.TestCase):
    def test_zeros(self):
        for r in range(1, 17):
            self.assertEqual(written([0] * r), "!")

    def test_one_row(self):
        for row, text in ((1, "o!"), (2, "bo!"), (3, "2o!"), (4, "2bo!"), (5, "obo!"), (32768, "15bo!"),
                          (32769, "o14bo!"), (65535, "16o!"), (65534, "b15o!"), (32767, "15o!"),
                          (0x5555, "obobobobobobobo!"), (0xAAAA, "bobobobobobobobo!"), (0x0FF0, "4b8o!"),
                          (1536, "9b2o!"), (3072, "10b2o!")):
            self.assertEqual(written([row]), text)

    def test_full_rows(self):
        self.assertEqual(written([65535] * 3), "16o$16o$16o!")
        self.assertEqual(written([65535] * 16), "$".join(["16o"] * 16) + "!")

    def test_rows_of_zeros(self):
        self.assertEqual(written([0, 1]), "$o!")
        self.assertEqual(written([0, 0, 1]), "2$o!")
        self.assertEqual(written([1, 0]), "o!")
        self.assertEqual(written([1, 0, 0, 6, 0]), "o3$b2o!")
        self.assertEqual(written([1, 0, 2, 4, 0, 0]), "o2$bo$2bo!")
        self.assertEqual(written([0] * 15 + [32768]), "15$15bo!")
        self.assertEqual(written([1] + [0] * 14 + [1]), "o15$o!")
        self.assertEqual(written([0] * 10 + [1] + [0] * 5), "10$o!")

    def test_a_glider(self):
        self.assertEqual(written([2, 4, 7] + [0] * 13), "bo$2bo$3o!")

    def test_the_form(self):
        for seed in range(300):
            text = written(sparse_rows(seed, seed % 16 + 1))
            self.assertRegex(text, r"\A(([1-9][0-9]*)?[bo$])*!\Z")
            self.assertNotRegex(text, r"(?<![0-9])1[bo$]")
            self.assertNotRegex(text, r"b[0-9]*b|o[0-9]*o|\$[0-9]*\$|b[0-9]*\$|b!|\$!")

    def test_it_tells_the_cells(self):
        for seed in range(300):
            r = seed % 16 + 1
            cells = sparse_rows(seed, r)
            self.assertEqual(rows_told(r, written(cells)), cells)

    def test_the_world_stays(self):
        cells = some_rows(3, 5)
        told = ask(made(0, cells) + [rule(0, some_table(3)), write(0), rows(0), steps(0, 1), rows(0)])
        self.assertEqual(told[-3::2], [[0] + cells, [0] + step_by_table(cells, some_table(3))])

    def test_worlds_that_are_not_begun(self):
        for world in (1, 4, TOP):
            self.assertEqual(last([begin(0, 2), write(world)]), [-4])


class ReadTest(unittest.TestCase):
    def check(self, r, text, expected):
        """expected: the rows, or None if it is no text of such a world."""
        self.assertEqual(reading(r, text), ([0], expected) if expected is not None else ([-2], [65535] * r), text)
        self.assertEqual(rows_told(r, text), expected, text)

    def test_the_end_alone(self):
        for r in (1, 2, 16):
            self.check(r, "!", [0] * r)

    def test_nothing(self):
        for r in (1, 2, 16):
            self.check(r, "", None)

    def test_no_end(self):
        for text in ("b", "o", "$", "3o", "o$o", "1", "16b"):
            self.check(3, text, None)

    def test_something_behind_the_end(self):
        for text in ("!!", "!b", "!o", "!$", "!1", "o!o!", "o! ", "!\n", "o!\0"):
            self.check(3, text, None)

    def test_a_number_before_the_end(self):
        for text in ("1!", "2!", "0!", "o1!", "o$2!", "16o1!", "b99999!"):
            self.check(3, text, None)

    def test_numbers(self):
        for letter, told in (("b", [0, 0]), ("o", [1, 0]), ("$", [0, 0])):
            self.check(2, letter + "!", told)
            self.check(2, "1" + letter + "!", told)
            for number in ("0", "00", "01", "001", "02", "99999", "99998", "100000", "100001", "1000000", "65537"):
                self.check(2, number + letter + "!", None)
            self.check(2, "10" * 400 + letter + "!", None)
        self.check(16, "10o10$10b6o!", [1023] + [0] * 9 + [63 << 10] + [0] * 5)
        self.check(2, "1b1o1b1$1o!", [2, 1])

    def test_numbers_without_letters(self):
        for text in ("1 b!", "1+b!", "-1b!", "+1b!", "1.b!", "1_0b!", "b2", "2", "12"):
            self.check(2, text, None)

    def test_greatest_numbers_that_wrap(self):
        # Told by 8, 16, 32 or 64 bits these would be small.
        for number in (257, 65537, 4294967297, 18446744073709551617):
            for letter in "bo$":
                self.check(2, f"{number}{letter}!", None)

    def test_runs_to_the_last_cell_and_past_it(self):
        self.check(2, "16o!", [65535, 0])
        self.check(2, "16b!", [0, 0])
        self.check(2, "15bo!", [32768, 0])
        self.check(2, "15ob!", [32767, 0])
        self.check(2, "o" * 16 + "!", [65535, 0])
        self.check(2, "8o8b$8b8o!", [255, 65280])
        self.check(2, "16o$16o!", [65535, 65535])
        for text in ("17o!", "17b!", "16oo!", "16ob!", "16bb!", "15b2o!", "8o9b!", "o" * 17 + "!", "b$17o!", "16bo!"):
            self.check(2, text, None)

    def test_rows_on(self):
        for r in (1, 2, 15, 16):
            self.check(r, f"{r}$!", [0] * r)
            self.check(r, "$" * r + "!", [0] * r)
            self.check(r, f"{r - 1}$o!" if r > 1 else "o!", [0] * (r - 1) + [1])
            self.check(r, f"o{r}$!", [1] + [0] * (r - 1))
            self.check(r, f"{r + 1}$!", None)
            self.check(r, "$" * (r + 1) + "!", None)
            self.check(r, f"{r}$$!", None)
            self.check(r, f"${r}$!", None)

    def test_cells_in_row_r(self):
        for r in (1, 2, 16):
            for run in ("b", "o", "1b", "16b", "17b"):
                self.check(r, f"{r}${run}!", None)
                self.check(r, "$" * r + run + "!", None)
            self.check(r, f"{r}$b$!", None)

    def test_rows_on_come_to_cell_0(self):
        self.check(3, "5bo$o!", [32, 1, 0])
        self.check(3, "16b$16o!", [0, 65535, 0])
        self.check(3, "3o2$2o!", [7, 0, 3])

    def test_same_letters_behind_one_another(self):
        self.check(3, "oo2o!", [15, 0, 0])
        self.check(3, "bb2bo!", [16, 0, 0])
        self.check(3, "$$o!", [0, 0, 1])
        self.check(3, "ob$b$$!", [1, 0, 0])

    def test_other_bytes(self):
        for sign in range(256):
            if chr(sign) not in "bo$!123456789":
                for text in ([sign, 33], [111, sign, 33], [sign], [33, sign], [50, sign, 33], [sign, 111, 33]):
                    self.assertEqual(reading(2, text), ([-2], [65535] * 2), text)
        for text in ("B!", "O!", "o !", " o!", "o\n$o!", "x = 3\no!", "a!", "c!", "n!", "p!", "#!", "o,o!", "/b!",
                     ":b!", "\u00b2b!"):
            self.check(2, text, None)

    def test_how_many_bytes(self):
        for count in (1999, 2000):
            self.assertEqual(reading(2, [98] * (count - 1) + [33]), ([-2], [65535] * 2))
            self.assertEqual(reading(2, [0] * count), ([-2], [65535] * 2))
        for count in (2001, 2002, 2500):
            self.assertEqual(reading(2, [98] * (count - 1) + [33]), ([-3], [65535] * 2))
            self.assertEqual(reading(2, [0] * count), ([-3], [65535] * 2))
            self.assertEqual(reading(2, [33] + [0] * (count - 1)), ([-3], [65535] * 2))

    def test_the_longest_text(self):
        text = ("1o" * 16 + "1$") * 16 + "!"
        self.check(16, text, [65535] * 16)

    def test_the_same_text_in_fewer_rows(self):
        self.check(3, "o$o$o!", [1, 1, 1])
        self.check(2, "o$o$o!", None)
        self.check(2, "o$o$!", [1, 1])
        self.check(1, "o$o$!", None)
        self.check(1, "o$!", [1])

    def test_cells_that_are_not_told_become_0(self):
        self.assertEqual(after([65535] * 4, [read(0, "bo$!")]), [2, 0, 0, 0])
        self.assertEqual(after([65535] * 4, [read(0, "2$o!")]), [0, 0, 1, 0])

    def test_random_texts(self):
        source = random.Random(1)
        met = {True: 0, False: 0}
        for k in range(6000):
            text = "".join(source.choice("bo$bo$1230!") for n in range(source.randrange(9)))
            text += source.choice(("!", "!", "!", ""))
            r = source.choice((1, 2, 3, 16))
            expected = rows_told(r, text)
            met[expected is None] += 1
            self.check(r, text, expected)
        self.assertGreater(min(met.values()), 1000)

    def test_the_rule_stays(self):
        table = some_table(4)
        told = last([begin(0, 3), rule(0, table), read(0, "3ob2o$2bo!"), steps(0, 1), rows(0)])
        self.assertEqual(told, [0] + step_by_table([55, 4, 0], table))

    def test_worlds_that_are_not_begun(self):
        for world in (1, 4, TOP):
            told = ask([begin(0, 2), read(world, "!"), read(world, "?"), read(world, [0] * 2001), rows(0)])
            self.assertEqual(told[1:], [[-4]] * 3 + [[0, 0, 0]])

    def test_bytes_are_read_by_their_count(self):
        # A text's bytes that look like calls are none.
        told = ask([begin(0, 2), read(0, [4, 0, 4, 0]), read(0, []), rows(0)])
        self.assertEqual(told[1:], [[-2], [-2], [0, 0, 0]])


class BackTest(unittest.TestCase):
    """P4: what's written is read back to the same cells; each world has one text."""

    def test_written_and_read(self):
        for r in range(1, 17):
            for seed in range(30):
                for cells in (sparse_rows(seed + 100 * r, r), some_rows(seed + 100 * r, r)):
                    text = last(made(0, cells) + [write(0)])[1:]
                    told = ask(made(0, some_rows(seed, r)) + [read(0, text), rows(0), write(0)])
                    self.assertEqual(told[-3:], [[0], [0] + cells, [0] + text])

    def test_every_row(self):
        for first in range(0, 65536, 997):
            calls = [begin(0, 2)]
            for row in range(first, first + 20):
                calls += [put(0, 1, row % 65536), write(0)]
            for row, told in zip(range(first, first + 20), ask(calls)[2::2]):
                self.assertEqual(last([begin(0, 2), read(0, told[1:]), rows(0)]), [0, 0, row % 65536])

    def test_one_text_of_each_world(self):
        source = random.Random(7)
        for r in range(1, 17):
            for seed in range(12):
                cells = sparse_rows(seed + 50 * r, r)
                text = last(made(0, cells) + [write(0)])
                for k in range(4):
                    other = other_text(source, cells)
                    told = ask([begin(0, r), read(0, other), rows(0), write(0)])
                    self.assertEqual(told[1:], [[0], [0] + cells, text], other)

    def test_two_texts_of_one_world(self):
        for text, others in (("obo!", ("obo!", "1o1b1o!")), ("2o!", ("oo$!", "2o14b2$!")), ("!", ("b$b$b!", "3$!")),
                             ("2$2bo!", ("$$bbo!", "16b2$2bo!")), ("$16o!", ("16b$16o$!", "$8o8o!"))):
            for told in others:
                answer = last([begin(2, 3), read(2, told), write(2)])
                self.assertEqual(answer, [0] + [ord(sign) for sign in text])

    def test_unlike_worlds_have_unlike_texts(self):
        for r in (1, 3, 16):
            met = {}
            for seed in range(200):
                cells = sparse_rows(seed, r)
                self.assertEqual(met.setdefault(written(cells), cells), cells)

    def test_written_after_steps_and_moves(self):
        cells = some_rows(6, 9)
        calls = made(0, cells) + [counts(0, *LIFE), steps(0, 30), shift(0, 3, -2)]
        told = ask(calls + [write(0), rows(0)])
        self.assertEqual(last([begin(1, 9), read(1, told[-2][1:]), rows(1)]), told[-1])


if __name__ == "__main__":
    unittest.main()
