"""shift, flip, turn, with, same: each as told (P1), and P3."""

import unittest

from helper import (
    LIFE, SHIFT_LEAST, SHIFT_TOP, TOP, after, ask, begin, cell_of, counts, flip, last, leap, made, moved, put, rows,
    rows_by, rule, same, shift, shifted, some_rows, some_table, step_by_table, steps, sum_table, turn, with_other,
)

SIZES = (1, 2, 3, 5, 8, 15, 16)
FAR = (0, 1, -1, 2, 5, -5, 7, 15, 16, 17, -15, -16, -17, 1000, -1000, SHIFT_LEAST, SHIFT_LEAST + 1, SHIFT_TOP - 1,
       SHIFT_TOP)


def across(cells):
    return moved(cells, lambda x, y: (15 - x, y))


def down(cells):
    return moved(cells, lambda x, y: (x, len(cells) - 1 - y))


def quarter(cells):
    return moved(cells, lambda x, y: (15 - y, x))


class ShiftTest(unittest.TestCase):
    def test_by_nothing(self):
        for r in SIZES:
            cells = some_rows(r, r)
            self.assertEqual(after(cells, [shift(0, 0, 0)]), cells)
            self.assertEqual(after(cells, [shift(0, 16, r), shift(0, -32, -3 * r)]), cells)

    def test_by_hand(self):
        self.assertEqual(after([1, 0, 0], [shift(0, 1, 0)]), [2, 0, 0])
        self.assertEqual(after([1, 0, 0], [shift(0, -1, 0)]), [32768, 0, 0])
        self.assertEqual(after([1, 0, 0], [shift(0, 0, 1)]), [0, 1, 0])
        self.assertEqual(after([1, 0, 0], [shift(0, 0, -1)]), [0, 0, 1])
        self.assertEqual(after([32769, 0, 6], [shift(0, 1, 1)]), [12, 3, 0])
        self.assertEqual(after([9], [shift(0, 2, 5)]), [36])

    def test_by_the_bounds(self):
        # 2147483648 is 0 modulo 16 and 2 modulo 3, 2147483647 is 15 modulo 16 and 1 modulo 3.
        cells = [1, 2, 4]
        self.assertEqual(after(cells, [shift(0, SHIFT_LEAST, 0)]), cells)
        self.assertEqual(after(cells, [shift(0, 0, SHIFT_LEAST)]), [4, 1, 2])
        self.assertEqual(after(cells, [shift(0, SHIFT_TOP, 0)]), [32768, 1, 2])
        self.assertEqual(after(cells, [shift(0, 0, SHIFT_TOP)]), [4, 1, 2])
        self.assertEqual(after(cells, [shift(0, SHIFT_LEAST, SHIFT_TOP)]), [4, 1, 2])

    def test_as_told_cell_by_cell(self):
        for r in SIZES:
            cells = some_rows(r + 10, r)
            for dx in FAR:
                for dy in FAR:
                    self.assertEqual(after(cells, [shift(0, dx, dy)]), shifted(cells, dx, dy), (r, dx, dy))

    def test_there_and_back(self):
        cells = some_rows(3, 7)
        self.assertEqual(after(cells, [shift(0, SHIFT_TOP, -9), shift(0, -SHIFT_TOP, 9)]), cells)


class FlipTest(unittest.TestCase):
    def test_by_hand(self):
        self.assertEqual(after([1, 6, 0], [flip(0, 0)]), [32768, 24576, 0])
        self.assertEqual(after([1, 6, 0], [flip(0, 1)]), [0, 6, 1])
        self.assertEqual(after([11], [flip(0, 1)]), [11])

    def test_as_told_cell_by_cell(self):
        for r in range(1, 17):
            cells = some_rows(r + 20, r)
            self.assertEqual(after(cells, [flip(0, 0)]), across(cells))
            self.assertEqual(after(cells, [flip(0, 1)]), down(cells))
            for how in (0, 1):
                self.assertEqual(after(cells, [flip(0, how), flip(0, how)]), cells)

    def test_no_such_how(self):
        cells = some_rows(1, 3)
        for how in (2, 3, 4, 256, 65536, TOP):
            told = ask(made(0, cells) + [flip(0, how), rows(0)])
            self.assertEqual(told[-2:], [[-1], [0] + cells])


class TurnTest(unittest.TestCase):
    def test_by_hand(self):
        cells = [3] + [0] * 15
        self.assertEqual(after(cells, [turn(0)]), [32768, 32768] + [0] * 14)
        self.assertEqual(after(cells, [turn(0), turn(0)]), [0] * 15 + [49152])
        self.assertEqual(after(cells, [turn(0)] * 3), [0] * 14 + [1, 1])

    def test_as_told_cell_by_cell(self):
        for seed in range(10):
            cells = some_rows(seed, 16)
            self.assertEqual(after(cells, [turn(0)]), quarter(cells))
            self.assertEqual(after(cells, [turn(0)] * 4), cells)

    def test_other_numbers_of_rows(self):
        for r in range(1, 16):
            cells = some_rows(r, r)
            told = ask(made(0, cells) + [turn(0), rows(0)])
            self.assertEqual(told[-2:], [[-2], [0] + cells])
        self.assertEqual(ask([begin(0, 15), turn(0), begin(0, 16), turn(0)]), [[0], [-2], [0], [0]])


class WithTest(unittest.TestCase):
    def test_by_hand(self):
        for f, row in ((0, 0), (1, 65520), (2, 10), (4, 4), (8, 1), (6, 14), (14, 15), (15, 65535), (12, 5), (10, 11)):
            told = ask(made(0, [5]) + made(1, [11]) + [with_other(0, 1, f), rows(0), rows(1)])
            self.assertEqual(told[4:], [[0], [0, row], [0, 11]], f)

    def test_as_told_cell_by_cell(self):
        for r in SIZES:
            own = some_rows(r + 40, r)
            other = some_rows(r + 60, r)
            for f in range(16):
                expected = rows_by(own, lambda x, y: (f >> (2 * cell_of(own, x, y) + cell_of(other, x, y))) & 1)
                told = ask(made(2, own) + made(0, other) + [with_other(2, 0, f), rows(2), rows(0)])
                self.assertEqual(told[-3:], [[0], [0] + expected, [0] + other])

    def test_bits_from_4_on_do_not_matter(self):
        for f in (16, 4294967280):
            self.assertEqual(last(made(0, [5]) + made(1, [11]) + [with_other(0, 1, f), rows(0)]), [0, 0])
        self.assertEqual(last(made(0, [5]) + made(1, [11]) + [with_other(0, 1, TOP), rows(0)]), [0, 65535])
        self.assertEqual(last(made(0, [5]) + made(1, [11]) + [with_other(0, 1, 22), rows(0)]), [0, 14])

    def test_with_itself(self):
        cells = some_rows(5, 4)
        turned_over = [65535 ^ row for row in cells]
        for f in range(16):
            # With itself only the bits 0 and 3 are met.
            expected = ([0] * 4, turned_over, cells, [65535] * 4)[(f & 1) + 2 * (f >> 3)]
            told = ask(made(1, cells) + [with_other(1, 1, f), rows(1)])
            self.assertEqual(told[-2:], [[0], [0] + expected])

    def test_unlike_numbers_of_rows(self):
        for r, other_r in ((1, 2), (2, 1), (15, 16), (16, 15), (1, 16)):
            own = some_rows(1, r)
            other = some_rows(2, other_r)
            told = ask(made(0, own) + made(1, other) + [with_other(0, 1, 6), rows(0), rows(1)])
            self.assertEqual(told[-3:], [[-2], [0] + own, [0] + other])

    def test_worlds_that_are_not_begun(self):
        for other in (1, 3, 4, 5, TOP):
            told = ask(made(0, [3]) + [with_other(0, other, 15), with_other(other, 0, 15), rows(0)])
            self.assertEqual(told[-3:], [[-4], [-4], [0, 3]])
            self.assertEqual(ask([with_other(other, other, 0)]), [[-4]])

    def test_later_changes_do_not_reach_the_other(self):
        both = made(0, [1, 2]) + made(1, [4, 8]) + [with_other(0, 1, 10)]
        told = ask(both + [put(0, 0, 99), rows(1), put(1, 1, 77), rows(0)])
        self.assertEqual(told[-3::2], [[0, 4, 8], [0, 99, 8]])


class SameTest(unittest.TestCase):
    def test_alike(self):
        for r in SIZES:
            cells = some_rows(r, r)
            told = ask(made(0, cells) + made(3, cells) + [same(0, 3), same(3, 0), same(0, 0), rows(0), rows(3)])
            self.assertEqual(told[-5:], [[1], [1], [1], [0] + cells, [0] + cells])

    def test_one_cell_apart(self):
        for r in (1, 2, 16):
            cells = some_rows(r, r)
            for y in (0, r // 2, r - 1):
                for x in (0, 7, 15):
                    other = list(cells)
                    other[y] ^= 1 << x
                    told = ask(made(0, cells) + made(3, other) + [same(0, 3), same(3, 0)])
                    self.assertEqual(told[-2:], [[0], [0]])

    def test_rules_do_not_count(self):
        told = last(made(0, [5, 6]) + made(1, [5, 6]) + [counts(0, *LIFE), rule(1, some_table(1)), same(0, 1)])
        self.assertEqual(told, [1])

    def test_shifted_is_not_alike(self):
        self.assertEqual(last(made(0, [5, 6]) + made(1, [6, 5]) + [same(0, 1)]), [0])

    def test_unlike_numbers_of_rows(self):
        for r, other_r in ((1, 2), (2, 1), (15, 16), (16, 15)):
            self.assertEqual(last([begin(0, r), begin(1, other_r), same(0, 1)]), [-2])

    def test_worlds_that_are_not_begun(self):
        for other in (1, 3, 4, TOP):
            self.assertEqual(ask([begin(0, 2), same(0, other), same(other, 0), same(other, other)])[1:], [[-4]] * 3)


class RuleStaysTest(unittest.TestCase):
    def test_the_rule_stays(self):
        table = some_table(8)
        for call in (shift(0, 3, 2), flip(0, 0), flip(0, 1), turn(0), with_other(0, 1, 6), with_other(0, 0, 9)):
            calls = made(0, some_rows(8, 16)) + [rule(0, table)]
            calls += made(1, some_rows(9, 16)) + [rule(1, sum_table(1)), call, rows(0), steps(0, 1), rows(0)]
            told = ask(calls)
            self.assertEqual(told[-1][1:], step_by_table(told[-3][1:], table), call)

    def test_the_second_rule_stays(self):
        table = some_table(12)
        other = some_rows(9, 4)
        calls = made(0, some_rows(8, 4)) + made(1, other) + [rule(1, table), with_other(0, 1, 6)]
        told = last(calls + [steps(1, 1), rows(1)])
        self.assertEqual(told, [0] + step_by_table(other, table))


class MovedStepsTest(unittest.TestCase):
    """P3: what is moved, then stepped, is what is stepped, then moved."""

    def check(self, cells, way, move, move_on, go):
        first_moved = after(cells, [way] + move + [go])
        self.assertEqual(first_moved, after(cells, [way, go] + move))
        self.assertEqual(first_moved, move_on(after(cells, [way, go])))

    def test_shifted_by_any_rule(self):
        for r in SIZES:
            ways = [counts(0, *LIFE), counts(0, 300, 87), rule(0, some_table(r)), rule(0, some_table(r + 1))]
            for way in ways:
                for dx, dy in ((1, 0), (0, 1), (-1, -1), (5, 3), (SHIFT_LEAST, SHIFT_TOP)):
                    for n in (1, 2, 9):
                        self.check(some_rows(r + n, r), way, [shift(0, dx, dy)],
                                   lambda cells: shifted(cells, dx, dy), steps(0, n))

    def test_shifted_and_leapt(self):
        for r in (1, 6, 16):
            for mask in (187, 170, 83):
                self.check(some_rows(r, r), rule(0, sum_table(mask)), [shift(0, -3, 4)],
                           lambda cells: shifted(cells, -3, 4), leap(0, 123456789))

    def test_flipped_by_counts(self):
        for r in SIZES:
            for born, stays in (LIFE, (300, 87), (72, 12), (1, 510)):
                for n in (1, 3):
                    cells = some_rows(r + born, r)
                    self.check(cells, counts(0, born, stays), [flip(0, 0)], across, steps(0, n))
                    self.check(cells, counts(0, born, stays), [flip(0, 1)], down, steps(0, n))

    def test_turned_by_counts(self):
        for born, stays in (LIFE, (300, 87), (72, 12), (1, 510)):
            for n in (1, 2, 7):
                self.check(some_rows(born + n, 16), counts(0, born, stays), [turn(0)], quarter, steps(0, n))


if __name__ == "__main__":
    unittest.main()
