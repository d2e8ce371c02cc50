"""find, home, before: each as told (P1)."""

import itertools
import unittest

from helper import (
    LIFE, TOP, ask, before, begin, cell_of, counts, find, flip, home, last, made, put, rows, rule, set_to, shifted,
    some_rows, some_table, step_by_counts, step_by_table, steps, sum_table, table_bit, table_by,
)

GLIDER = [2, 4, 7] + [0] * 13


def places(cells, shape, w, h):
    """The places that have the shape, in order, told anew."""
    return [
        (x, y) for y in range(len(cells)) for x in range(16)
        if all(cell_of(cells, x + i, y + j) == cell_of(shape, i, j) for j in range(h) for i in range(w))
    ]


def way_home(cells, step, most):
    """What home answers, told anew."""
    now = cells
    for n in range(1, most + 1):
        now = step(now)
        for dy in range(len(cells)):
            for dx in range(16):
                if now == shifted(cells, dx, dy):
                    return [0, n, dx, dy]
    return [-5]


def blocks_before(cells, table, w, h):
    """What before answers, by all blocks one behind another."""
    many = 0
    first = []
    for block in itertools.product(range(1 << (w + 2)), repeat=h + 2):
        hoods = [
            (x, y, sum(((block[y + j] >> x) & 7) << (3 * j) for j in range(3))) for y in range(h) for x in range(w)
        ]
        if all(table_bit(table, hood) == cell_of(cells, x, y) for x, y, hood in hoods):
            many += 1
            first = first or list(block)
    return [0, many] + first


class FindTest(unittest.TestCase):
    def setUp(self):
        # Sparse rows, so that shapes are met in some places only.
        self.cells = [row & 0x1111 | 2 for row in some_rows(4, 6)]

    def two(self, cells, shape):
        return made(0, cells) + made(1, shape)

    def test_by_hand(self):
        cells = [0, 48, 0, 0, 768, 0]
        two = self.two(cells, [3])
        self.assertEqual(last(two + [find(0, 1, 2, 1, 0)]), [0, 2, 4, 1])
        self.assertEqual(last(two + [find(0, 1, 2, 1, 1)]), [0, 2, 8, 4])
        self.assertEqual(last(two + [find(0, 1, 2, 1, 2)]), [0, 2])
        self.assertEqual(last(two + [find(0, 1, 3, 1, 0)]), [0, 2, 4, 1])
        self.assertEqual(last(two + [find(0, 1, 1, 1, 1)]), [0, 4, 5, 1])
        self.assertEqual(last(two + [find(1, 0, 1, 1, 0)]), [0, 14, 2, 0])

    def test_only_the_block_counts(self):
        # Cells outside the block of w and h, in the second world, are of no account.
        two = self.two([0, 48, 0], [65535, 65535, 65535])
        self.assertEqual(last(two + [find(0, 1, 2, 1, 0)]), [0, 1, 4, 1])
        self.assertEqual(last(two + [find(0, 1, 2, 2, 0)]), [0, 0])

    def test_across_the_edge(self):
        two = self.two([1, 0, 0, 32768], [1, 2])
        self.assertEqual(last(two + [find(0, 1, 2, 2, 0)]), [0, 1, 15, 3])
        two = self.two([32769], [3])
        self.assertEqual(last(two + [find(0, 1, 2, 1, 0)]), [0, 1, 15, 0])
        two = self.two([4, 0, 4], [1, 1, 0])
        self.assertEqual(last(two + [find(0, 1, 1, 3, 0)]), [0, 1, 2, 2])
        self.assertEqual(last(self.two([255 << 12 & 65535 | 15, 0], [255]) + [find(0, 1, 8, 1, 0)]), [0, 1, 12, 0])

    def test_order_is_of_y_then_of_x(self):
        two = self.two([8, 1, 4 + 32], [1])
        told = ask(two + [find(0, 1, 1, 1, k) for k in range(5)])
        self.assertEqual(told[-5:], [[0, 4, 3, 0], [0, 4, 0, 1], [0, 4, 2, 2], [0, 4, 5, 2], [0, 4]])

    def test_all_places(self):
        for r in (1, 2, 16):
            told = ask([begin(0, r), begin(1, 1)] + [find(0, 1, 8, 1, k) for k in (0, 16 * r - 1, 16 * r, TOP)])
            self.assertEqual(told[2:], [[0, 16 * r, 0, 0], [0, 16 * r, 15, r - 1], [0, 16 * r], [0, 16 * r]])

    def test_none(self):
        self.assertEqual(last(self.two([0, 0], [1]) + [find(0, 1, 1, 1, 0)]), [0, 0])

    def test_w_and_h(self):
        for w, told in ((0, -1), (1, 0), (8, 0), (9, -1), (16, -1), (TOP, -1)):
            self.assertEqual(last([begin(0, 16), begin(1, 16), find(0, 1, w, 1, 0)])[0], told)
            self.assertEqual(last([begin(0, 16), begin(1, 16), find(0, 1, 1, w, 0)])[0], told)
            self.assertEqual(len(last([begin(0, 16), begin(1, 16), find(0, 1, 1, w, 0)])), 1 if told else 4)
        self.assertEqual(last([begin(0, 16), begin(1, 16), find(0, 1, 0, 0, 0)]), [-1])
        self.assertEqual(last([begin(0, 16), begin(1, 16), find(0, 1, 9, 9, 0)]), [-1])
        self.assertEqual(last([begin(0, 16), begin(1, 16), find(0, 1, 8, 8, 0)]), [0, 256, 0, 0])

    def test_h_above_a_number_of_rows(self):
        for r, other_r in ((3, 16), (16, 3), (3, 3), (3, 4), (7, 8), (8, 7), (1, 1)):
            two = [begin(0, r), begin(1, other_r)]
            least = min(r, other_r)
            self.assertEqual(last(two + [find(0, 1, 1, least, 0)]), [0, 16 * r, 0, 0])
            self.assertEqual(last(two + [find(0, 1, 1, least + 1, 0)]), [-1])

    def test_as_told_place_by_place(self):
        for seed in range(6):
            shape = [row & 0x1111 | 2 for row in some_rows(seed, 8)]
            for w, h in ((1, 1), (2, 1), (1, 2), (3, 2), (2, 3), (4, 1), (8, 1), (1, 6), (5, 5), (8, 6)):
                met = places(self.cells, shape, w, h)
                for k in {0, 1, len(met) // 2, max(len(met) - 1, 0), len(met), len(met) + 1, TOP}:
                    expected = [0, len(met)] + (list(met[k]) if k < len(met) else [])
                    self.assertEqual(last(self.two(self.cells, shape) + [find(0, 1, w, h, k)]), expected)

    def test_the_shape_of_a_piece_of_the_world(self):
        for r in (1, 2, 7, 16):
            cells = some_rows(r, r)
            for x, y in ((0, 0), (13, r - 1), (6, r // 2)):
                w, h = 8, min(r, 8)
                shape = shifted(cells, -x, -y)[:h]
                met = places(cells, shape, w, h)
                self.assertIn((x, y), met)
                told = last(made(0, cells) + made(1, shape) + [find(0, 1, w, h, met.index((x, y)))])
                self.assertEqual(told, [0, len(met), x, y])

    def test_in_itself(self):
        cells = [5, 0, 5, 0]
        told = ask(made(2, cells) + [find(2, 2, 3, 2, k) for k in (0, 1, 2)])
        self.assertEqual(told[-3:], [[0, 2, 0, 0], [0, 2, 0, 2], [0, 2]])

    def test_worlds_that_are_not_begun(self):
        for other in (1, 3, 4, TOP):
            for w, h in ((1, 1), (0, 1), (9, 9)):
                told = ask([begin(0, 2), find(0, other, w, h, 0), find(other, 0, w, h, 0), find(other, other, w, h, 0)])
                self.assertEqual(told[1:], [[-4]] * 3)

    def test_both_worlds_stay(self):
        told = ask(self.two(self.cells, [3, 1]) + [find(0, 1, 2, 2, 0), rows(0), rows(1)])
        self.assertEqual(told[-2:], [[0] + self.cells, [0, 3, 1]])


class HomeTest(unittest.TestCase):
    def test_a_glider(self):
        by_life = made(0, GLIDER) + [counts(0, *LIFE)]
        self.assertEqual(last(by_life + [home(0, 64)]), [0, 4, 1, 1])
        self.assertEqual(last(by_life + [home(0, 4)]), [0, 4, 1, 1])
        self.assertEqual(last(by_life + [home(0, 3)]), [-5])
        self.assertEqual(last(by_life + [flip(0, 0), home(0, 9)]), [0, 4, 15, 1])
        self.assertEqual(last(by_life + [flip(0, 1), home(0, 9)]), [0, 4, 1, 15])

    def test_at_once(self):
        for r in (1, 2, 16):
            cells = some_rows(r, r)
            for most in (1, 2, 64):
                self.assertEqual(last(made(0, cells) + [home(0, most)]), [0, 1, 0, 0])
                self.assertEqual(last([begin(0, r), home(0, most)]), [0, 1, 0, 0])

    def test_shifted_by_each_step(self):
        cells = [1, 0, 0, 6]
        for place, dx, dy in ((0, 1, 1), (2, 15, 1), (3, 1, 0), (5, 15, 0), (6, 1, 3), (7, 0, 3), (8, 15, 3)):
            told = last(made(0, cells) + [rule(0, sum_table(1 << place)), home(0, 1)])
            self.assertEqual(told, [0, 1, dx, dy])

    def test_of_several_the_least_dy_then_the_least_dx(self):
        # Rows alike in each row, and cells alike with a period of 4: many shifts lead to the same.
        one_left = rule(0, sum_table(32))
        self.assertEqual(last(made(0, [0x1111] * 3) + [one_left, home(0, 64)]), [0, 1, 3, 0])
        # One up is one down in these rows, and one to the left with it.
        self.assertEqual(last(made(0, [0x5555, 0xAAAA]) + [rule(0, sum_table(128)), home(0, 64)]), [0, 1, 1, 0])
        self.assertEqual(last(made(0, [0x1111, 0x4444] * 2) + [rule(0, sum_table(128)), home(0, 9)]), [0, 1, 2, 0])
        self.assertEqual(last(made(0, [0x0F0F, 0xFF00] * 2) + [rule(0, sum_table(128)), home(0, 9)]), [0, 1, 0, 1])

    def test_how_many(self):
        by_life = made(0, GLIDER) + [counts(0, *LIFE)]
        for most, told in ((0, [-5]), (1, [-5]), (64, [0, 4, 1, 1]), (65, [-3]), (66, [-3]), (TOP, [-3])):
            self.assertEqual(last(by_life + [home(0, most)]), told)
        for most, told in ((0, [-5]), (1, [0, 1, 0, 0]), (65, [-3])):
            self.assertEqual(last([begin(0, 1), home(0, most)]), told)

    def test_none(self):
        self.assertEqual(last(made(0, [1, 0]) + [rule(0, [0] * 64), home(0, 64)]), [-5])
        self.assertEqual(last(made(0, [1, 0]) + [rule(0, [255] * 64), home(0, 64)]), [-5])
        self.assertEqual(last(made(0, [65535, 65535]) + [rule(0, [255] * 64), home(0, 1)]), [0, 1, 0, 0])

    def test_just_at_and_just_past_the_most(self):
        # Sums that come home after some steps: home tells it from that many on, and not before.
        met = []
        for mask in range(1, 512, 5):
            for r in (3, 5, 7, 11, 16):
                way = made(0, [1, 6] + [0] * (r - 2)) + [rule(0, sum_table(mask))]
                told = last(way + [home(0, 64)])
                if told != [-5]:
                    n = told[1]
                    met.append(n)
                    self.assertEqual(last(way + [home(0, n)]), told)
                    self.assertEqual(last(way + [home(0, n - 1)]), [-5])
        self.assertGreater(max(met), 8)

    def test_at_sixty_four_and_past_it(self):
        for seed, cells, n in ((18299, [53823, 55103], 63), (9539, [10834, 1038], 64), (16247, [30484, 29314], 64),
                               (2358, [64197, 63669], 65), (10381, [15110, 4462], 65)):
            table = some_table(seed)
            expected = way_home(cells, lambda now: step_by_table(now, table), n)
            self.assertEqual(expected[:2], [0, n])
            told = ask(made(0, cells) + [rule(0, table), home(0, 64), home(0, 63), rows(0)])
            self.assertEqual(told[-3], expected if n <= 64 else [-5])
            self.assertEqual(told[-2], expected if n <= 63 else [-5])
            self.assertEqual(told[-1], [0] + cells)

    def test_as_told_step_by_step(self):
        for r in (1, 2, 3, 6):
            for seed in range(6):
                cells = [row & 1023 for row in some_rows(seed, r)]
                table = some_table(seed)
                by_table = way_home(cells, lambda now: step_by_table(now, table), 12)
                self.assertEqual(last(made(0, cells) + [rule(0, table), home(0, 12)]), by_table)
                by_counts = way_home(cells, lambda now: step_by_counts(now, *LIFE), 12)
                self.assertEqual(last(made(0, cells) + [counts(0, *LIFE), home(0, 12)]), by_counts)
                by_sum = way_home(cells, lambda now: step_by_table(now, sum_table(seed * 50 + 3)), 12)
                self.assertEqual(last(made(0, cells) + [rule(0, sum_table(seed * 50 + 3)), home(0, 12)]), by_sum)

    def test_small_patterns_by_life(self):
        for shape in ([7], [3, 3], [6, 9, 6], [14, 7], [2, 4, 7], [18, 1, 17, 15], [7, 1, 2]):
            cells = shape + [0] * (9 - len(shape))
            expected = way_home(cells, lambda now: step_by_counts(now, *LIFE), 10)
            self.assertEqual(last(made(0, cells) + [counts(0, *LIFE), home(0, 10)]), expected)

    def test_the_world_stays(self):
        for most in (0, 3, 4, 64, 65):
            calls = made(0, GLIDER) + [counts(0, *LIFE), home(0, most), rows(0), steps(0, 1), rows(0)]
            told = ask(calls)
            self.assertEqual(told[-3], [0] + GLIDER)
            self.assertEqual(told[-1], [0] + step_by_counts(GLIDER, *LIFE))

    def test_worlds_that_are_not_begun(self):
        for world in (1, 4, TOP):
            self.assertEqual(ask([begin(0, 2), home(world, 1), home(world, 65)])[1:], [[-4]] * 2)

    def test_sixty_calls(self):
        calls = made(0, some_rows(1, 16)) + [rule(0, some_table(1))] + [home(0, 64)] * 42
        self.assertEqual(ask(calls)[18:], [[-5]] * 42)


class BeforeTest(unittest.TestCase):
    def ways(self):
        return [some_table(1), some_table(2), sum_table(187), sum_table(16), sum_table(1),
                table_by(lambda t: int(t in (7, 56, 448))), table_by(lambda t: int(t != 300))]

    def test_as_told_block_by_block(self):
        for k, table in enumerate(self.ways()):
            for w, h in ((1, 1), (2, 1), (1, 2)):
                for low in range(4):
                    cells = [low & 1 | (low & 2) | 8 * k, (3 - low) | 16 * k]
                    told = last(made(0, cells) + [rule(0, table), before(0, w, h)])
                    self.assertEqual(told, blocks_before(cells, table, w, h), (k, w, h, cells))

    def test_two_and_two_block_by_block(self):
        for k, table in enumerate(self.ways()):
            cells = [k % 4, (k + 1) % 3, 5]
            told = last(made(0, cells) + [rule(0, table), before(0, 2, 2)])
            self.assertEqual(told, blocks_before(cells, table, 2, 2), (k, cells))

    def test_by_life(self):
        def bit_of(t):
            c = bin(t & ~16).count("1")
            return int(c == 3 or (c == 2 and t & 16 > 0))
        table = table_by(bit_of)
        for cells in ([0, 0], [1, 0], [3, 3], [2, 1]):
            told = last(made(0, cells) + [counts(0, *LIFE), before(0, 2, 2)])
            self.assertEqual(told, blocks_before(cells, table, 2, 2))
        # 56 blocks with three around a cell that's 0, 56 with three and 28 with two around one that's 1.
        self.assertEqual(last(made(0, [1]) + [counts(0, *LIFE), before(0, 1, 1)]), [0, 140, 0, 0, 7])

    def test_by_hand(self):
        # Every cell stays: the middle is told, and the cells around it are free.
        self.assertEqual(last(made(0, [0]) + [before(0, 1, 1)]), [0, 256, 0, 0, 0])
        self.assertEqual(last(made(0, [1]) + [before(0, 1, 1)]), [0, 256, 0, 2, 0])
        self.assertEqual(last(made(0, [2]) + [before(0, 2, 1)]), [0, 1024, 0, 4, 0])
        self.assertEqual(last(made(0, [3, 1]) + [before(0, 2, 2)]), [0, 4096, 0, 6, 2, 0])
        self.assertEqual(last(made(0, [65534, 1]) + [before(0, 1, 2)]), [0, 1024, 0, 0, 2, 0])

    def test_the_first_of_several(self):
        # One neighbourhood alone leads to 1, so that the only block is told; then two, and the less is first.
        only = table_by(lambda t: int(t == 0o352))
        self.assertEqual(last(made(0, [1]) + [rule(0, only), before(0, 1, 1)]), [0, 1, 2, 5, 3])
        two = table_by(lambda t: int(t in (0o117, 0o771)))
        self.assertEqual(last(made(0, [1]) + [rule(0, two), before(0, 1, 1)]), [0, 2, 1, 7, 7])
        two = table_by(lambda t: int(t in (0o711, 0o171)))
        self.assertEqual(last(made(0, [1]) + [rule(0, two), before(0, 1, 1)]), [0, 2, 1, 1, 7])
        two = table_by(lambda t: int(t in (0o711, 0o611)))
        self.assertEqual(last(made(0, [1]) + [rule(0, two), before(0, 1, 1)]), [0, 2, 1, 1, 6])

    def test_none(self):
        for w, h in ((1, 1), (1, 2), (2, 1), (2, 2)):
            self.assertEqual(last(made(0, [1, 0]) + [rule(0, [0] * 64), before(0, w, h)]), [0, 0])
            self.assertEqual(last(made(0, [65534, 0]) + [rule(0, [255] * 64), before(0, w, h)]), [0, 0])
        # Each row for itself could have come, both together not.
        table = table_by(lambda t: int(t == 0o700))
        self.assertEqual(last(made(0, [1, 1]) + [rule(0, table), before(0, 1, 1)]), [0, 1, 0, 0, 7])
        self.assertEqual(last(made(0, [1, 1]) + [rule(0, table), before(0, 1, 2)]), [0, 0])

    def test_all_blocks(self):
        for w, h in ((1, 1), (1, 2), (2, 1), (2, 2)):
            told = last([begin(0, 2), rule(0, [0] * 64), before(0, w, h)])
            self.assertEqual(told, [0, 1 << ((w + 2) * (h + 2))] + [0] * (h + 2))

    def test_only_the_block_counts(self):
        table = some_table(5)
        for w, h in ((1, 1), (2, 1), (1, 2), (2, 2)):
            plain = last(made(0, [1, 2, 0]) + [rule(0, table), before(0, w, h)])
            other = last(made(0, [1 + 65532, 2 + 4, 77]) + [rule(0, table), before(0, w, h)])
            self.assertEqual(plain, other)

    def test_the_first_block_leads_there(self):
        table = some_table(6)
        for low in range(16):
            cells = [low & 3, low >> 2]
            told = last(made(0, cells) + [rule(0, table), before(0, 2, 2)])
            self.assertGreater(told[1], 0)
            # Laid into the middle of a world, one step makes the cells of it.
            world = made(1, [row << 4 for row in told[2:]] + [0] * 4)
            stepped = last(world + [rule(1, table), steps(1, 1), rows(1)])[1:]
            self.assertEqual([(stepped[1] >> 5) & 3, (stepped[2] >> 5) & 3], cells)

    def test_counts_of_all_blocks_add_up(self):
        for seed in (1, 2, 3):
            for w, h in ((1, 1), (2, 1), (1, 2), (2, 2)):
                calls = [begin(0, 2), rule(0, some_table(seed))]
                for low in range(1 << (w * h)):
                    calls += [put(0, 0, low & ((1 << w) - 1)), put(0, 1, low >> w), before(0, w, h)]
                told = ask(calls)[4::3]
                self.assertEqual(sum(answer[1] for answer in told), 1 << ((w + 2) * (h + 2)))

    def test_w_and_h(self):
        for w, told in ((0, -1), (1, 0), (2, 0), (3, -1), (TOP, -1)):
            for call in (before(0, w, 1), before(0, 1, w), before(0, w, w), before(0, 2, w)):
                answer = last([begin(0, 4), call])
                self.assertEqual(answer[0], told)
                self.assertEqual(len(answer), 1 if told else 4 + call[3])

    def test_h_above_the_number_of_rows(self):
        self.assertEqual(last([begin(0, 1), before(0, 2, 1)]), [0, 1024, 0, 0, 0])
        self.assertEqual(last([begin(0, 1), before(0, 1, 2)]), [-1])
        self.assertEqual(last([begin(0, 1), before(0, 2, 2)]), [-1])
        self.assertEqual(last([begin(0, 2), before(0, 1, 2)]), [0, 1024, 0, 0, 0, 0])

    def test_the_world_stays(self):
        cells = some_rows(9, 5)
        table = some_table(9)
        for w, h in ((2, 2), (0, 1), (1, 3)):
            told = ask(made(0, cells) + [rule(0, table), before(0, w, h), rows(0), steps(0, 1), rows(0)])
            self.assertEqual(told[-3::2], [[0] + cells, [0] + step_by_table(cells, table)])

    def test_worlds_that_are_not_begun(self):
        for world in (1, 4, TOP):
            self.assertEqual(ask([begin(0, 2), before(world, 1, 1), before(world, 0, 3)])[1:], [[-4]] * 2)

    def test_sixty_calls(self):
        calls = [begin(0, 2), rule(0, some_table(3)), set_to(0, 0, 0, 1)] + [before(0, 2, 2)] * 57
        told = ask(calls)
        self.assertEqual(told[3:], [told[3]] * 57)


if __name__ == "__main__":
    unittest.main()
