"""The form of what is handed in and given back; nothing is kept; P5."""

import unittest

from cellbookyard.book import answers
from helper import (
    LEAP_TOP, LIFE, SHIFT_LEAST, SHIFT_TOP, TOP, ask, before, begin, cell, counts, facts, find, flip, home, last, leap,
    line, made, put, read, rows, rule, same, set_to, shift, some_rows, some_table, steps, sum_table, turn, with_other,
    write,
)


def calls_on_two(world, second):
    """One of each call on two worlds."""
    return [with_other(world, second, 6), same(world, second), find(world, second, 2, 2, 0)]


def every_call(world):
    """One of each call but begin, on one world."""
    return [
        rule(world, [0] * 64), counts(world, 8, 12), rows(world), put(world, 0, 1), cell(world, 0, 0),
        set_to(world, 0, 0, 1), steps(world, 1), leap(world, 1), facts(world), shift(world, 1, -1), flip(world, 0),
        flip(world, 1), turn(world), home(world, 4), before(world, 2, 2), write(world), read(world, "o$2bo!"),
    ] + calls_on_two(world, world)


class FormTest(unittest.TestCase):
    def test_numbers_in_and_out(self):
        calls = [1, 2, 2, 5, 2, 1, 9, 4, 2, 6, 2, 3, 1, 10, 2, 10, 3, 4, 0]
        told = [1, 0, 1, 0, 3, 0, 0, 9, 1, 1, 6, 0, 2, 0, 3, 1, 1, 1, -4, 1, -4]
        self.assertEqual(answers(calls), told)

    def test_rule_is_read_by_its_count(self):
        for count in (0, 1, 63, 65, 100):
            calls = [1, 0, 1, 2, 0, count] + [4] * count + [4, 0]
            self.assertEqual(answers(calls), [1, 0, 1, -2, 2, 0, 0])
        self.assertEqual(answers([2, 9, 3, 1, 1, 1, 1, 1, 1]), [1, -4, 1, 0])

    def test_numbers_in_and_out_of_the_later_calls(self):
        calls = [1, 0, 2, 20, 0, 5, 51, 111, 36, 111, 33, 11, 0, -1, 3, 4, 0, 12, 0, 0, 12, 0, 1, 4, 0, 19, 0]
        told = [1, 0, 1, 0, 1, 0, 3, 0, 32768, 32771, 1, 0, 1, 0, 3, 0, 49153, 1]
        text = [111, 49, 51, 98, 50, 111, 36, 111, 33]
        self.assertEqual(answers(calls), told + [10, 0] + text)
        calls = [1, 0, 2, 1, 1, 2, 7, 1, 3, 1, 1, 14, 0, 1, 6, 15, 0, 1, 16, 0, 1, 1, 1, 31, 16, 0, 1, 1, 1, 30]
        told = [1, 0, 1, 0, 1, 0, 1, 0, 1, 1, 2, 0, 31, 4, 0, 31, 15, 1]
        self.assertEqual(answers(calls), told)
        calls = [1, 3, 1, 13, 3, 17, 3, 1, 17, 3, 0, 17, 3, 65, 18, 3, 1, 1, 18, 3, 1, 2]
        told = [1, 0, 1, -2, 4, 0, 1, 0, 0, 1, -5, 1, -3, 5, 0, 256, 0, 0, 0, 1, -1]
        self.assertEqual(answers(calls), told)

    def test_text_is_read_by_its_count(self):
        for count in (0, 1, 2000, 2001, 2500):
            calls = [1, 0, 1, 20, 0, count] + [4] * count + [4, 0]
            self.assertEqual(answers(calls), [1, 0, 1, -3 if count > 2000 else -2, 2, 0, 0])
        self.assertEqual(answers([20, 9, 3, 1, 1, 1, 1, 1, 1]), [1, -4, 1, 0])

    def test_the_longest_list(self):
        # Six texts of 2500 bytes and more calls behind them: near to 16000 numbers.
        calls = line([begin(0, 1)] + [read(0, [98] * 2500)] * 6 + [rule(0, [1] * 100)] * 9 + [rows(0)])
        self.assertGreater(len(calls), 15900)
        self.assertLessEqual(len(calls), 16000)
        self.assertEqual(answers(calls), [1, 0] + [1, -3] * 6 + [1, -2] * 9 + [2, 0, 0])

    def test_greatest_numbers(self):
        told = ask([
            begin(0, 16), counts(0, TOP, TOP), put(0, TOP, TOP), cell(0, TOP, TOP), set_to(0, TOP, TOP, TOP),
            steps(0, TOP), leap(0, LEAP_TOP), shift(0, SHIFT_LEAST, SHIFT_TOP), shift(0, SHIFT_TOP, SHIFT_LEAST),
            flip(0, TOP), with_other(0, 0, TOP), find(0, 0, TOP, TOP, TOP), find(0, 0, 1, 1, TOP), home(0, TOP),
            before(0, TOP, TOP),
        ])
        self.assertEqual(told[:7], [[0], [0], [-1], [-1], [-1], [-3], [-2]])
        self.assertEqual(told[7:], [[0], [0], [-1], [0], [-1], [0, 256], [-3], [-1]])

    def test_one_call(self):
        self.assertEqual(answers([1, 0, 1]), [1, 0])
        self.assertEqual(answers([4, 0]), [1, -4])

    def test_sixty_calls(self):
        calls = [begin(0, 16)] + [rows(0)] * 59
        self.assertEqual(ask(calls), [[0]] + [[0] * 17] * 59)

    def test_sixty_calls_with_much_to_do(self):
        told = ask(made(0, some_rows(1, 16)) + [rule(0, some_table(1))] + [steps(0, 500)] * 42)
        self.assertEqual(told, [[0]] * 60)

    def test_answers_are_plain_lists_of_whole_numbers(self):
        told = answers(line([begin(0, 3)] + every_call(0) + [begin(1, 16)] + every_call(1)))
        self.assertIs(type(told), list)
        self.assertEqual({type(number) for number in told}, {int})

    def test_what_is_handed_in_stays(self):
        calls = line(made(1, some_rows(2, 5)) + every_call(1) + [rule(1, sum_table(186)), leap(1, LEAP_TOP)])
        kept = list(calls)
        first = answers(calls)
        self.assertEqual(calls, kept)
        self.assertEqual(answers(calls), first)
        self.assertEqual(calls, kept)

    def test_what_is_handed_in_is_not_changed_for_a_while(self):
        class Watched(list):
            def refuse(self, *told):
                raise RuntimeError("changed")
            __setitem__ = __delitem__ = __iadd__ = __imul__ = refuse
            append = extend = insert = pop = remove = reverse = sort = clear = refuse

        calls = line(made(1, some_rows(2, 5)) + every_call(1))
        self.assertEqual(answers(Watched(calls)), answers(calls))

    def test_what_is_given_back_is_new_each_time(self):
        calls = line([begin(0, 2), rows(0)])
        first = answers(calls)
        first[3] = 77
        self.assertEqual(answers(calls), [1, 0, 3, 0, 0, 0])

    def test_nothing_is_kept(self):
        answers(line(made(0, [1, 2]) + [counts(0, 8, 12)]))
        self.assertEqual(ask([rows(0)]), [[-4]])
        self.assertEqual(ask([begin(0, 2), rows(0), put(0, 0, 7), steps(0, 1), rows(0)])[1::3], [[0, 0, 0], [0, 7, 0]])


class NoWorldTest(unittest.TestCase):
    def test_none_is_begun_at_first(self):
        for world in (0, 1, 2, 3):
            self.assertEqual(ask(every_call(world)), [[-4]] * len(every_call(world)))

    def test_no_such_world(self):
        begun = [begin(world, 2) for world in range(4)]
        for world in (4, 5, 65536, TOP):
            self.assertEqual(ask(begun + every_call(world)), [[0]] * 4 + [[-4]] * len(every_call(world)))

    def test_either_of_two_worlds(self):
        for world in (1, 2, 3, 4, TOP):
            told = ask([begin(0, 2)] + calls_on_two(0, world) + calls_on_two(world, 0) + calls_on_two(world, world))
            self.assertEqual(told, [[0]] + [[-4]] * 9)

    def test_before_all_other_refusals(self):
        for world in (1, 4, TOP):
            told = ask([
                begin(0, 2), rule(world, []), rule(world, [1] * 65), put(world, 2, 1), put(world, 0, 65536),
                cell(world, 16, 2), set_to(world, 16, 2, 1), steps(world, 501), leap(world, 1), flip(world, 2),
                turn(world), find(0, world, 9, 0, 0), find(world, 0, 0, 3, 0), home(world, 65), home(world, 0),
                before(world, 3, 0), read(world, [0] * 2001), read(world, "?"),
            ])
            self.assertEqual(told, [[0]] + [[-4]] * 17)

    def test_refused_begin_begins_nothing(self):
        self.assertEqual(ask([begin(2, 0), rows(2), begin(2, 17), rows(2)]), [[-1], [-4], [-1], [-4]])


class ApartTest(unittest.TestCase):
    """P5: worlds don't change one another; what's refused changes nothing."""

    def four(self):
        calls = []
        for world in range(4):
            calls += made(world, some_rows(world, 3 + world)) + [rule(world, sum_table(17 + world))]
        return calls

    def states(self, calls):
        """All rows of the four worlds, before and after a step by their rules."""
        looks = [rows(world) for world in range(4)]
        moves = [steps(world, 1) for world in range(4)]
        told = ask(self.four() + calls + looks + moves + looks)
        return told[-12:-8] + told[-4:]

    def test_refused_changes_nothing(self):
        as_it_was = self.states([])
        refused = [
            begin(4, 3), begin(TOP, 3), begin(0, 0), begin(0, 17), begin(0, TOP), rule(0, []), rule(0, [255] * 63),
            rule(0, [255] * 65), put(0, 3, 1), put(0, TOP, 1), put(0, 0, 65536), put(0, 0, TOP), put(0, 3, 65536),
            cell(0, 16, 0), cell(0, 0, 3), set_to(0, 16, 0, 1), set_to(0, 16, 0, 0), set_to(0, 0, 3, 1),
            set_to(0, 0, 3, 0), set_to(0, TOP, TOP, 1), steps(0, 501), steps(0, TOP), flip(0, 2), flip(0, TOP), turn(0),
            with_other(0, 1, 6), with_other(1, 0, 6), same(0, 1), find(0, 1, 0, 1, 0), find(0, 1, 1, 0, 0),
            find(0, 1, 9, 1, 0), find(1, 0, 1, 4, 0), find(0, 1, 1, 4, 0), home(0, 65), home(0, 0), before(0, 0, 1),
            before(0, 1, 3), read(0, ""), read(0, "3o$5b"), read(0, "3o$5b17o!"), read(0, "5o3$o!"), read(0, "5o4$!"),
            read(0, [98] * 2001),
        ] + every_call(4) + calls_on_two(0, 4) + calls_on_two(4, 0)
        for call in refused:
            self.assertLess(last(self.four() + [call])[0], 0, call)
            self.assertEqual(len(last(self.four() + [call])), 1, call)
            self.assertEqual(self.states([call]), as_it_was, call)

    def test_refused_leap_changes_nothing(self):
        by_life = [counts(0, *LIFE)]
        self.assertEqual(last(self.four() + by_life + [leap(0, 3)]), [-2])
        self.assertEqual(self.states(by_life + [leap(0, 3)]), self.states(by_life))

    def test_home_that_is_not_found_changes_nothing(self):
        by_none = [rule(0, [0] * 64)]
        self.assertEqual(last(self.four() + by_none + [home(0, 64)]), [-5])
        self.assertEqual(self.states(by_none + [home(0, 64)]), self.states(by_none))

    def test_calls_on_two_leave_the_second(self):
        alike = [begin(0, 4), put(0, 1, 77)]
        as_it_was = self.states(alike)
        for call in calls_on_two(0, 1):
            after = self.states(alike + [call])
            self.assertEqual(after[1:4] + after[5:], as_it_was[1:4] + as_it_was[5:], call)

    def test_later_calls_reach_one_world_alone(self):
        # After a with the first world has the second one's cells, but in rows of its own.
        alike = [begin(0, 4), with_other(0, 1, 10)]
        as_it_was = self.states(alike)
        for world, other in ((0, 1), (1, 0)):
            for call in every_call(world):
                after = self.states(alike + [call])
                self.assertEqual([after[other], after[other + 4]], [as_it_was[other], as_it_was[other + 4]], call)

    def test_a_call_changes_no_other_world(self):
        as_it_was = self.states([])
        for world in range(4):
            others = [k for k in range(8) if k % 4 != world]
            for call in [begin(world, 2)] + every_call(world):
                after = self.states([call])
                self.assertEqual([after[k] for k in others], [as_it_was[k] for k in others], call)

    def test_telling_changes_nothing(self):
        as_it_was = self.states([])
        for call in (rows(1), cell(1, 2, 2), facts(1), steps(1, 0), leap(1, 0), shift(1, 0, 0), same(1, 1), same(1, 2),
                     find(1, 2, 2, 2, 0), find(1, 1, 2, 2, 0), home(1, 20), before(1, 2, 2), write(1)):
            self.assertEqual(self.states([call]), as_it_was, call)

    def test_begun_anew(self):
        first = made(1, [65535] * 5) + [counts(1, 511, 511)]
        anew = [begin(1, 3), rows(1), facts(1), steps(1, 3), rows(1), put(1, 1, 6), steps(1, 1), leap(1, 5), rows(1)]
        told = ask(first + anew)[len(first):]
        self.assertEqual(told, [[0], [0] * 4, [0, 0], [0], [0] * 4, [0], [0], [0], [0, 0, 6, 0]])

    def test_refused_begin_leaves_the_world_that_was_there(self):
        told = ask(made(1, [5, 6]) + [begin(1, 17), rows(1), begin(1, 0), rows(1)])
        self.assertEqual(told[3:], [[-1], [0, 5, 6], [-1], [0, 5, 6]])


if __name__ == "__main__":
    unittest.main()
