"""begin, rule, counts, rows, put, cell, set, facts: each as told (P1)."""

import unittest

from helper import (
    LIFE, OWN_BIT, TOP, ask, begin, cell, cell_of, counts, facts, last, leap, made, neighbourhood, put, rows, rule,
    set_to, some_rows, some_table, step_by_counts, step_by_table, steps, table_by, table_bit,
)


class BeginTest(unittest.TestCase):
    def test_worlds(self):
        for world in (0, 1, 2, 3):
            self.assertEqual(ask([begin(world, 1), rows(world)]), [[0], [0, 0]])
        for world in (4, 5, 255, 65536, TOP):
            self.assertEqual(last([begin(world, 1)]), [-1])
            self.assertEqual(last([begin(world, 0)]), [-1])

    def test_numbers_of_rows(self):
        for r in range(1, 17):
            self.assertEqual(ask([begin(0, r), rows(0)]), [[0], [0] * (r + 1)])
        for r in (0, 17, 18, 32, TOP):
            self.assertEqual(ask([begin(0, r), rows(0)]), [[-1], [-4]])

    def test_cells_stay_what_they_are(self):
        for r in (1, 2, 3, 16):
            cells = some_rows(r, r)
            told = ask(made(0, cells) + [steps(0, 1), rows(0), steps(0, 500), rows(0), leap(0, 99), rows(0)])
            self.assertEqual(told[r + 1:], [[0], [0] + cells] * 3)


class RuleTest(unittest.TestCase):
    def test_how_many_bytes(self):
        for count in (0, 1, 8, 32, 63, 65, 66, 100):
            self.assertEqual(last([begin(0, 1), rule(0, [7] * count)]), [-2])
        self.assertEqual(last([begin(0, 1), rule(0, [7] * 64)]), [0])

    def test_each_bit_of_the_table(self):
        cells = some_rows(5, 16)
        for t in range(512):
            table = table_by(lambda k: int(k == t))
            expected = [sum((neighbourhood(cells, x, y) == t) << x for x in range(16)) for y in range(16)]
            told = last(made(0, cells) + [rule(0, table), steps(0, 1), rows(0)])
            self.assertEqual(told, [0] + expected)

    def test_each_neighbourhood_is_met(self):
        for t in range(512):
            shape = [(t & 7) << 4, ((t >> 3) & 7) << 4, ((t >> 6) & 7) << 4, 0]
            table = table_by(lambda k: int(k == t))
            told = last(made(0, shape) + [rule(0, table), steps(0, 1), cell(0, 5, 1)])
            self.assertEqual(told, [1])

    def test_the_later_rule_counts(self):
        cells = some_rows(3, 6)
        table = some_table(3)
        told = last(made(0, cells) + [counts(0, *LIFE), rule(0, table), steps(0, 1), rows(0)])
        self.assertEqual(told, [0] + step_by_table(cells, table))
        told = last(made(0, cells) + [rule(0, table), counts(0, *LIFE), steps(0, 1), rows(0)])
        self.assertEqual(told, [0] + step_by_counts(cells, *LIFE))

    def test_refused_rule_leaves_the_rule(self):
        cells = some_rows(4, 6)
        table = some_table(4)
        told = ask(made(0, cells) + [rule(0, table), rule(0, [0] * 63), steps(0, 1), rows(0)])
        self.assertEqual(told[-3:], [[-2], [0], [0] + step_by_table(cells, table)])

    def test_the_cells_stay(self):
        cells = some_rows(11, 4)
        told = ask(made(0, cells) + [rule(0, some_table(11)), rows(0), counts(0, 8, 12), rows(0)])
        self.assertEqual(told[-3::2], [[0] + cells] * 2)


class CountsTest(unittest.TestCase):
    def test_each_count(self):
        cells = some_rows(1, 16)
        for bit in range(9):
            for born, stays in ((1 << bit, 0), (0, 1 << bit)):
                told = last(made(0, cells) + [counts(0, born, stays), steps(0, 1), rows(0)])
                self.assertEqual(told, [0] + step_by_counts(cells, born, stays))

    def test_all_around(self):
        for r in (1, 2, 3):
            full = [65535] * r
            told = ask(made(0, full) + [counts(0, 0, 256), steps(0, 1), rows(0)])
            self.assertEqual(told[-3:], [[0], [0], [0] + full])
            self.assertEqual(last(made(0, full) + [counts(0, 511, 255), steps(0, 1), rows(0)]), [0] * (r + 1))
            self.assertEqual(last(made(0, [0] * r) + [counts(0, 1, 0), steps(0, 1), rows(0)]), [0] + full)

    def test_a_blinker(self):
        told = ask(made(0, [0, 0, 14, 0, 0]) + [counts(0, *LIFE), steps(0, 1), rows(0), steps(0, 1), rows(0)])
        self.assertEqual(told[-3], [0, 0, 4, 4, 4, 0])
        self.assertEqual(told[-1], [0, 0, 0, 14, 0, 0])

    def test_bits_from_9_on_do_not_matter(self):
        cells = some_rows(2, 7)
        plain = last(made(0, cells) + [counts(0, *LIFE), steps(0, 4), rows(0)])
        for high in (512, 1024, 65536, 2147483648, TOP - 511):
            told = ask(made(0, cells) + [counts(0, LIFE[0] + high, LIFE[1] + high), steps(0, 4), rows(0)])
            self.assertEqual(told[-3:], [[0], [0], plain])
        told = last(made(0, cells) + [counts(0, 512, 512), steps(0, 1), rows(0)])
        self.assertEqual(told, [0] * 8)
        told = last(made(0, cells) + [counts(0, TOP, TOP), steps(0, 1), rows(0)])
        self.assertEqual(told, [0] + [65535] * 7)

    def test_as_a_table(self):
        def bit_of(t):
            c = bin(t & ~(1 << OWN_BIT)).count("1")
            return ((90 if (t >> OWN_BIT) & 1 else 44) >> c) & 1
        table = table_by(bit_of)
        self.assertEqual(table_bit(table, 0), 0)
        for r in (1, 2, 5):
            cells = some_rows(r + 20, r)
            by_table = last(made(0, cells) + [rule(0, table), steps(0, 9), rows(0)])
            self.assertEqual(last(made(0, cells) + [counts(0, 44, 90), steps(0, 9), rows(0)]), by_table)


class RowsAndPutTest(unittest.TestCase):
    def test_put(self):
        for r in (1, 2, 7, 16):
            for y in range(r):
                expected = [0] * r
                expected[y] = 40961
                self.assertEqual(ask([begin(3, r), put(3, y, 40961), rows(3)]), [[0], [0], [0] + expected])

    def test_a_row_is_put_in_the_place_of_the_old_one(self):
        self.assertEqual(last([begin(0, 2), put(0, 1, 65535), put(0, 1, 6), rows(0)]), [0, 0, 6])
        self.assertEqual(last([begin(0, 2), put(0, 1, 65535), put(0, 1, 0), rows(0)]), [0, 0, 0])

    def test_no_such_row(self):
        for r in (1, 2, 15, 16):
            self.assertEqual(last([begin(0, r), put(0, r - 1, 1)]), [0])
            for y in (r, r + 1, 2 * r, TOP):
                self.assertEqual(ask([begin(0, r), put(0, y, 1), rows(0)])[1:], [[-1], [0] * (r + 1)])

    def test_greatest_row(self):
        self.assertEqual(ask([begin(0, 1), put(0, 0, 65535), rows(0)])[1:], [[0], [0, 65535]])
        for row in (65536, 65537, 131071, TOP):
            self.assertEqual(ask([begin(0, 1), put(0, 0, 3), put(0, 0, row), rows(0)])[2:], [[-1], [0, 3]])

    def test_both_wrong(self):
        self.assertEqual(last([begin(0, 4), put(0, 4, 65536)]), [-1])


class CellAndSetTest(unittest.TestCase):
    def test_every_cell(self):
        cells = some_rows(9, 16)
        for y in range(16):
            told = ask(made(0, cells) + [cell(0, x, y) for x in range(16)])
            self.assertEqual(told[17:], [[cell_of(cells, x, y)] for x in range(16)])

    def test_no_such_cell(self):
        for r in (1, 2, 15, 16):
            full = made(0, [65535] * r)
            self.assertEqual(last(full + [cell(0, 15, r - 1)]), [1])
            self.assertEqual(last(full + [set_to(0, 15, r - 1, 0)]), [0])
            for x, y in ((16, 0), (0, r), (16, r), (17, 0), (32, 0), (0, 2 * r), (TOP, 0), (0, TOP), (TOP, TOP)):
                told = ask(full + [cell(0, x, y), set_to(0, x, y, 0), set_to(0, x, y, 1), rows(0)])
                self.assertEqual(told[r + 1:], [[-1]] * 3 + [[0] + [65535] * r])

    def test_set(self):
        cells = some_rows(10, 3)
        for y in range(3):
            for x in range(16):
                for to in (0, 1, 2, 256, 65536, TOP):
                    expected = list(cells)
                    expected[y] = (cells[y] & ~(1 << x)) | (int(to != 0) << x)
                    told = ask(made(0, cells) + [set_to(0, x, y, to), rows(0), cell(0, x, y)])
                    self.assertEqual(told[4:], [[0], [0] + expected, [int(to != 0)]])

    def test_set_again(self):
        told = ask([begin(0, 1), set_to(0, 4, 0, 1), set_to(0, 4, 0, 7), rows(0), set_to(0, 4, 0, 0),
                    set_to(0, 4, 0, 0), rows(0)])
        self.assertEqual(told[1:], [[0], [0], [0, 16], [0], [0], [0, 0]])


class FactsTest(unittest.TestCase):
    def test_none(self):
        for r in (1, 2, 16):
            self.assertEqual(last([begin(0, r), facts(0)]), [0, 0])
        self.assertEqual(last([begin(0, 2), set_to(0, 3, 1, 1), set_to(0, 3, 1, 0), facts(0)]), [0, 0])

    def test_one(self):
        for x, y in ((0, 0), (15, 0), (0, 15), (15, 15), (6, 11)):
            self.assertEqual(last([begin(0, 16), set_to(0, x, y, 1), facts(0)]), [0, 1, x, x, y, y])

    def test_all(self):
        for r in (1, 2, 16):
            self.assertEqual(last(made(0, [65535] * r) + [facts(0)]), [0, 16 * r, 0, 15, 0, r - 1])

    def test_some(self):
        self.assertEqual(last(made(0, [0, 8, 0, 1024 + 32, 0]) + [facts(0)]), [0, 3, 3, 10, 1, 3])
        for seed in range(20):
            cells = [row & (row >> 3) & 2044 for row in some_rows(seed, 8)]
            ones = [(x, y) for y in range(8) for x in range(16) if cell_of(cells, x, y)]
            xs = [x for x, y in ones]
            ys = [y for x, y in ones]
            expected = [0, len(ones), min(xs), max(xs), min(ys), max(ys)]
            self.assertEqual(last(made(0, cells) + [facts(0)]), expected)


if __name__ == "__main__":
    unittest.main()
