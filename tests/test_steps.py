"""steps and leap: what single steps come to (P1, P2)."""

import unittest

from helper import (
    LEAP_TOP, LIFE, TOP, after, ask, begin, counts, last, leap, made, rows, rule, some_rows, some_table,
    step_by_counts, step_by_table, steps, sum_table, table_by, with_bit_turned,
)

SIZES = (1, 2, 3, 4, 5, 7, 8, 11, 15, 16)

# The cell itself; one neighbour; left and right; four around; all nine; eight around; corners; none.
MASKS = (16, 1, 256, 40, 170, 511, 495, 325, 0, 187, 83)


class StepsTest(unittest.TestCase):
    def test_no_step(self):
        cells = some_rows(1, 5)
        self.assertEqual(after(cells, [counts(0, *LIFE), steps(0, 0)]), cells)

    def test_how_many(self):
        for n, told in ((0, [0]), (1, [0]), (499, [0]), (500, [0]), (501, [-3]), (502, [-3]), (TOP, [-3])):
            self.assertEqual(last(made(0, [7, 9]) + [counts(0, *LIFE), steps(0, n)]), told)

    def test_too_many_changes_nothing(self):
        cells = some_rows(2, 9)
        told = ask(made(0, cells) + [counts(0, *LIFE), steps(0, 501), rows(0)])
        self.assertEqual(told[-2:], [[-3], [0] + cells])

    def test_by_a_table(self):
        for r in SIZES:
            for seed in range(4):
                cells = some_rows(seed, r)
                table = some_table(seed + 50)
                expected = cells
                for n in range(1, 5):
                    expected = step_by_table(expected, table)
                    self.assertEqual(after(cells, [rule(0, table), steps(0, n)]), expected)

    def test_by_counts(self):
        for r in SIZES:
            for born, stays in (LIFE, (72, 12), (4, 0), (511, 0), (170, 341), (0, 511)):
                cells = some_rows(r + born, r)
                expected = cells
                for n in range(1, 5):
                    expected = step_by_counts(expected, born, stays)
                    self.assertEqual(after(cells, [counts(0, born, stays), steps(0, n)]), expected)

    def test_one_row_by_hand(self):
        # In a world of one row cell 5 stands three times in its own neighbourhood, twice around itself.
        self.assertEqual(after([32], [counts(0, 0, 4), steps(0, 1)]), [32])
        self.assertEqual(after([32], [counts(0, 8, 0), steps(0, 1)]), [80])
        self.assertEqual(after([32], [rule(0, table_by(lambda t: int(t == 146))), steps(0, 1)]), [32])
        self.assertEqual(after([32], [rule(0, table_by(lambda t: int(t == 292))), steps(0, 1)]), [16])
        self.assertEqual(after([32], [rule(0, table_by(lambda t: int(t == 73))), steps(0, 1)]), [64])

    def test_two_rows_by_hand(self):
        # In a world of two rows the other row stands above and below.
        self.assertEqual(after([32, 0], [counts(0, 4, 0), steps(0, 1)]), [0, 112])
        self.assertEqual(after([32, 0], [counts(0, 2, 1), steps(0, 1)]), [112, 0])
        self.assertEqual(after([32, 0], [rule(0, table_by(lambda t: int(t == 130))), steps(0, 1)]), [0, 32])

    def test_around_the_edges(self):
        left_above = sum_table(1)
        self.assertEqual(after([0, 0, 32768], [rule(0, left_above), steps(0, 1)]), [1, 0, 0])
        right_below = sum_table(256)
        self.assertEqual(after([1, 0, 0], [rule(0, right_below), steps(0, 1)]), [0, 0, 32768])

    def test_a_glider(self):
        cells = [2, 4, 7] + [0] * 13
        moved = [0, 4, 8, 14] + [0] * 12
        self.assertEqual(after(cells, [counts(0, *LIFE), steps(0, 4)]), moved)
        self.assertEqual(after(cells, [counts(0, *LIFE), steps(0, 64)]), cells)

    def test_n_and_m_are_n_plus_m(self):
        for r in (1, 2, 6, 16):
            cells = some_rows(r, r)
            for way in (counts(0, *LIFE), rule(0, some_table(r)), rule(0, sum_table(187))):
                for n, m in ((0, 3), (3, 0), (1, 1), (2, 5), (13, 30), (250, 250)):
                    parted = after(cells, [way, steps(0, n), steps(0, m)])
                    self.assertEqual(parted, after(cells, [way, steps(0, n + m)]))

    def test_single_steps(self):
        for r in (1, 2, 16):
            cells = some_rows(r + 5, r)
            for way in (counts(0, *LIFE), rule(0, some_table(r + 5))):
                self.assertEqual(after(cells, [way] + [steps(0, 1)] * 40), after(cells, [way, steps(0, 40)]))

    def test_five_hundred(self):
        cells = some_rows(77, 16)
        table = some_table(77)
        expected = cells
        for done in range(500):
            expected = step_by_table(expected, table)
        self.assertEqual(after(cells, [rule(0, table), steps(0, 500)]), expected)


class LeapTest(unittest.TestCase):
    def test_as_single_steps(self):
        for r in SIZES:
            cells = some_rows(r + 30, r)
            for mask in MASKS:
                table = sum_table(mask)
                expected = cells
                for n in range(20):
                    self.assertEqual(after(cells, [rule(0, table), leap(0, n)]), expected)
                    expected = step_by_table(expected, table)

    def test_as_steps(self):
        for r in SIZES:
            cells = some_rows(r + 60, r)
            for mask in MASKS:
                way = rule(0, sum_table(mask))
                for n in (31, 32, 33, 100, 255, 256, 499, 500):
                    self.assertEqual(after(cells, [way, leap(0, n)]), after(cells, [way, steps(0, n)]))

    def test_every_sum_leaps(self):
        cells = some_rows(90, 6)
        for mask in range(512):
            way = rule(0, sum_table(mask))
            self.assertEqual(after(cells, [way, leap(0, 5)]), after(cells, [way, steps(0, 5)]))

    def test_leaps_and_steps_add_up(self):
        for r in (1, 2, 3, 7, 16):
            cells = some_rows(r + 80, r)
            way = rule(0, sum_table(187))
            whole = after(cells, [way, leap(0, LEAP_TOP)])
            self.assertEqual(after(cells, [way, leap(0, LEAP_TOP - 500), steps(0, 500)]), whole)
            self.assertEqual(after(cells, [way, steps(0, 1), leap(0, LEAP_TOP - 1)]), whole)
            half = LEAP_TOP // 2
            self.assertEqual(after(cells, [way, leap(0, half), leap(0, half), leap(0, 1)]), whole)

    def test_farthest_leap_by_the_way_home(self):
        # The worlds come back after some steps, so that a far leap is one of few single steps.
        for r in (1, 2, 3, 4, 5, 6, 7):
            for mask in MASKS:
                table = sum_table(mask)
                met = [some_rows(r + 7, r)]
                follower = step_by_table(met[0], table)
                while follower not in met and len(met) < 1500:
                    met.append(follower)
                    follower = step_by_table(follower, table)
                if follower not in met:
                    continue
                start = met.index(follower)
                turn = len(met) - start
                for n in (LEAP_TOP, LEAP_TOP - 1, 1 << 63, (1 << 63) + 12345, 1 << 32, TOP, 1 << 16, 123456789012345):
                    expected = met[start + (n - start) % turn]
                    self.assertEqual(after(met[0], [rule(0, table), leap(0, n)]), expected, (r, mask, n))

    def test_far_shift_by_hand(self):
        # Each step takes every cell one to the left: LEAP_TOP steps are 15 of them modulo 16.
        self.assertEqual(after([1, 2], [rule(0, sum_table(32)), leap(0, LEAP_TOP)]), [2, 4])
        # Each step takes every row one up: LEAP_TOP modulo 7 is 1.
        self.assertEqual(after([1, 2, 3, 4, 5, 6, 7], [rule(0, sum_table(128)), leap(0, LEAP_TOP)]),
                         [2, 3, 4, 5, 6, 7, 1])

    def test_by_the_counting_rule(self):
        # Odd counts make a sum: of the eight around (170, 170), of all nine (170, 341).
        for born, stays in ((170, 170), (170, 341), (0, 0), (0, 511), (682, 1365)):
            for r in (1, 2, 9):
                cells = some_rows(r, r)
                way = counts(0, born, stays)
                self.assertEqual(after(cells, [way, leap(0, 77)]), after(cells, [way, steps(0, 77)]))

    def test_rules_that_are_no_sum(self):
        ways = [counts(0, *LIFE), counts(0, 511, 511), counts(0, 341, 170), counts(0, 2, 0), rule(0, [255] * 64)]
        ways += [rule(0, some_table(seed)) for seed in range(10)]
        ways += [rule(0, table_by(lambda t: 1 - (t >> 4) & 1)), rule(0, table_by(lambda t: int(t == 16)))]
        for r in (1, 2, 8):
            cells = some_rows(r, r)
            for way in ways:
                for n in (0, 1, 2, LEAP_TOP):
                    told = ask(made(0, cells) + [way, leap(0, n), rows(0)])
                    self.assertEqual(told[-2:], [[-2], [0] + cells])

    def test_a_single_bit_apart_from_a_sum(self):
        for mask in (0, 16, 170, 511):
            for t in range(512):
                told = last([begin(0, 1), rule(0, with_bit_turned(sum_table(mask), t)), leap(0, 0)])
                self.assertEqual(told, [-2], (mask, t))

    def test_no_step_and_one(self):
        cells = some_rows(4, 4)
        table = sum_table(170)
        self.assertEqual(after(cells, [rule(0, table), leap(0, 0)]), cells)
        self.assertEqual(after(cells, [rule(0, table), leap(0, 1)]), step_by_table(cells, table))
        self.assertEqual(last([begin(0, 1), leap(0, LEAP_TOP)]), [0])


if __name__ == "__main__":
    unittest.main()
