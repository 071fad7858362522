"""Runs of blocks, ways and counts: points 8 and 9, and point 2 as far as it speaks of them."""

import copy
import unittest

from blockfall.reader import read
from blockfall.runs import counts, run, ways
from helping import FIGURE_LIMIT, Maker, kinds_of, lists_in, run_by_text, text_of

LOOP = text_of(
    "box n 3",
    "block loop", "say n", "put n n-1", "if 0 < n loop else done",
    "block done", "say 100", "stop",
)
EVERY_END = text_of(
    "box a 0",
    "block first", "ask a", "go pick",
    "block pick", "table a first near last first",
    "block near", "say a", "if a < 100 first else last",
    "block same", "if a = 7 last else last",
    "block last", "say 0-a", "stop",
)


class RunTest(unittest.TestCase):
    def check(self, text, numbers, bound, told):
        with self.subTest(text=text, numbers=numbers, bound=bound):
            got = run(read(text), numbers, bound)
            self.assertEqual(got, told)
            self.assertEqual(kinds_of(got), kinds_of(told))

    def says(self, statements, numbers, said):
        self.check(text_of("box a 3", "box b 4", "block x", *statements, "stop"), numbers, 1, (said, ("stop",), []))

    def end_of(self, row):
        """Where an end goes: the way of a block with that end, boxes holding 5 and 999998."""
        text = text_of("box a 5", "box b 0", "block x", "put b 0-2", row, "block y", "stop", "block z", "stop")
        said, end, went = run(read(text), [], 1)
        self.assertEqual((said, end), ([], ("on",)))
        return went


class StatementsTest(RunTest):
    def test_one_block(self):
        self.check("block x\nstop", [], 1, ([], ("stop",), []))
        self.check("block x\nstop", [1, 2], 5, ([], ("stop",), []))

    def test_says_are_told_in_order(self):
        self.says(["say 1", "say a", "say b", "say 1", "say a*b+1"], [], [1, 3, 4, 1, 13])

    def test_boxes_hold_their_firsts(self):
        self.check("box a 0\nbox b 999\nblock x\nsay a\nsay b\nstop", [], 1, ([0, 999], ("stop",), []))

    def test_puts(self):
        self.says(["put a 7", "say a", "say b", "put b a+b", "say b", "say a", "put a a*a", "say a"],
                  [], [7, 4, 11, 7, 49])

    def test_puts_hold_the_rest(self):
        self.says(["put a 999*999", "say a"], [], [998001])
        self.says(["put a 500*500*4-1", "say a", "put a a+1", "say a"], [], [999999, 0])
        self.says(["put a 500*500*4+1", "say a"], [], [1])
        self.says(["put a 999*999*999", "say a"], [], [2999])
        self.says(["put a " + "*".join(["999"] * 15), "say a"], [], [999 ** 15 % 10 ** 6])

    def test_puts_hold_the_rest_of_numbers_below_nought(self):
        self.says(["put a 0-1", "say a"], [], [999999])
        self.says(["put a 0-999", "say a"], [], [999001])
        self.says(["put a 0-500*500*4", "say a"], [], [0])
        self.says(["put a 0-500*500*4-1", "say a"], [], [999999])
        self.says(["put a 0-999*999*999", "say a"], [], [997001])

    def test_says_as_they_are(self):
        self.says(["say 0-1", "say a-b*2", "say 500*500*4", "say 999*999*999", "say 0-999*999*999", "say 0"],
                  [], [-1, -5, 10 ** 6, 999 ** 3, -(999 ** 3), 0])
        self.says(["say " + "*".join(["999"] * 15)], [], [999 ** 15])

    def test_asks_take_the_numbers_in_order(self):
        self.says(["ask a", "say a", "say b", "ask b", "say a", "say b", "ask a", "say a"],
                  [7, 8, 9], [7, 4, 7, 8, 9])
        self.says(["ask a", "say a"], [7, 8, 9], [7])

    def test_asks_hold_the_rest(self):
        for number, held in (
                (0, 0), (1, 1), (999999, 999999), (10 ** 6, 0), (10 ** 6 + 1, 1), (-1, 999999), (-999999, 1),
                (-(10 ** 6), 0), (-(10 ** 6) - 1, 999999), (FIGURE_LIMIT, 999999), (-FIGURE_LIMIT, 1),
                (123456789012345678901234567890, 567890), (-123456789012345678901234567890, 432110)):
            self.says(["ask a", "say a"], [number], [held])

    def test_an_ask_without_a_number_left(self):
        for numbers, said in (([], [1]), ([7], [1, 7]), ([7, 8], [1, 7, 8]), ([7, 8, 9], [1, 7, 8, 9])):
            end = ("out",) if len(numbers) < 3 else ("stop",)
            self.check(text_of("box a 1", "block x", "say a", "ask a", "say a", "ask a", "say a", "ask a", "say a",
                               "stop"), numbers, 1, (said, end, []))

    def test_out_in_a_later_block(self):
        text = text_of("box a 1", "block x", "ask a", "say a", "go y", "block y", "say 5", "ask a", "say 6", "go x")
        self.check(text, [], 9, ([], ("out",), []))
        self.check(text, [2], 9, ([2, 5], ("out",), [(0, 0, 1)]))
        self.check(text, [2, 3], 9, ([2, 5, 6], ("out",), [(0, 0, 1), (1, 0, 0)]))
        self.check(text, [2, 3, 4], 9, ([2, 5, 6, 4, 5], ("out",), [(0, 0, 1), (1, 0, 0), (0, 0, 1)]))

    def test_an_ask_that_is_not_come_to_needs_no_number(self):
        self.check(text_of("box a 1", "block x", "stop", "block y", "ask a", "stop"), [], 5, ([], ("stop",), []))
        text = text_of("box a 1", "block x", "ask a", "if a < 5 x else y", "block y", "stop")
        self.check(text, [9], 5, ([], ("stop",), [(0, 1, 1)]))

    def test_numbers_that_are_not_asked_for_stay(self):
        self.check(text_of("box a 1", "block x", "ask a", "stop"), [4, 5, 6], 5, ([], ("stop",), []))


class EndsTest(RunTest):
    def test_go(self):
        self.assertEqual(self.end_of("go x"), [(0, 0, 0)])
        self.assertEqual(self.end_of("go y"), [(0, 0, 1)])
        self.assertEqual(self.end_of("go z"), [(0, 0, 2)])

    def test_if_less(self):
        for left, right, side in (("1", "2", 0), ("2", "2", 1), ("3", "2", 1), ("a", "6", 0), ("a", "5", 1),
                                  ("a", "4", 1), ("0-1", "0", 0), ("0", "0-1", 1), ("0-2", "0-1", 0)):
            self.assertEqual(self.end_of(f"if {left} < {right} y else z"), [(0, side, 1 + side)])
            self.assertEqual(self.end_of(f"if {left} < {right} z else y"), [(0, side, 2 - side)])

    def test_if_equal(self):
        for left, right, side in (("1", "2", 1), ("2", "2", 0), ("3", "2", 1), ("a", "5", 0), ("5", "a", 0),
                                  ("a+1", "5", 1), ("0-1", "1", 1), ("0-1", "0-1", 0), ("0-a", "0-5", 0)):
            self.assertEqual(self.end_of(f"if {left} = {right} y else z"), [(0, side, 1 + side)])
            self.assertEqual(self.end_of(f"if {left} = {right} z else x"), [(0, side, 2 - 2 * side)])

    def test_conditions_are_not_asked_of_rests(self):
        self.assertEqual(self.end_of("if 500*500*4 = 0 y else z"), [(0, 1, 2)])
        self.assertEqual(self.end_of("if 500*500*4 < 1 y else z"), [(0, 1, 2)])
        self.assertEqual(self.end_of("if 0-1 = 500*500*4-1 y else z"), [(0, 1, 2)])
        self.assertEqual(self.end_of("if 0-1 < 5 y else z"), [(0, 0, 1)])
        self.assertEqual(self.end_of("if b < 0 y else z"), [(0, 1, 2)])
        self.assertEqual(self.end_of("if b+2 = 500*500*4 y else z"), [(0, 0, 1)])

    def test_an_if_both_of_whose_sides_are_one_block(self):
        self.assertEqual(self.end_of("if 1 < 2 y else y"), [(0, 0, 1)])
        self.assertEqual(self.end_of("if 2 < 1 y else y"), [(0, 1, 1)])
        self.assertEqual(self.end_of("if a = 5 x else x"), [(0, 0, 0)])
        self.assertEqual(self.end_of("if a = 4 x else x"), [(0, 1, 0)])

    def test_tables(self):
        for number in range(12):
            self.assertEqual(self.end_of(f"table {number} x y z"), [(0, number % 3, number % 3)])
            self.assertEqual(self.end_of(f"table {number} z"), [(0, 0, 2)])
            side = number % 6
            self.assertEqual(self.end_of(f"table {number} z y y x z x"), [(0, side, (2, 1, 1, 0, 2, 0)[side])])

    def test_tables_of_worths_below_nought(self):
        for number, side in ((1, 2), (2, 1), (3, 0), (4, 2), (5, 1), (6, 0)):
            self.assertEqual(self.end_of(f"table 0-{number} x y z"), [(0, side, side)])
        self.assertEqual(self.end_of("table 0-1 z"), [(0, 0, 2)])
        self.assertEqual(self.end_of("table 0-a z y"), [(0, 1, 1)])

    def test_tables_of_great_worths(self):
        # What the rests by 1000000 would leave is 0.
        self.assertEqual(self.end_of("table 500*500*4 x y z"), [(0, 1, 1)])
        self.assertEqual(self.end_of("table 0-500*500*4 x y z"), [(0, 2, 2)])

    def test_stop(self):
        self.check("block x\nsay 1\nstop\nblock y\nsay 2\nstop", [], 9, ([1], ("stop",), []))

    def test_every_end(self):
        self.check(EVERY_END, [1, 5, 2], 20, ([1, 5, -2], ("stop",), [
            (0, 0, 1), (1, 1, 2), (2, 0, 0), (0, 0, 1), (1, 1, 2), (2, 0, 0), (0, 0, 1), (1, 2, 4)]))
        self.check(EVERY_END, [4, 3, 101], 20, ([101, -101], ("stop",), [
            (0, 0, 1), (1, 0, 0), (0, 0, 1), (1, 3, 0), (0, 0, 1), (1, 1, 2), (2, 1, 4)]))
        self.check(EVERY_END, [0, -1], 20, ([], ("out",), [(0, 0, 1), (1, 0, 0), (0, 0, 1), (1, 3, 0)]))


class BoundTest(RunTest):
    def test_a_bound_of_one(self):
        self.check("block x\nsay 1\nstop", [], 1, ([1], ("stop",), []))
        self.check("block x\nsay 1\ngo x", [], 1, ([1], ("on",), [(0, 0, 0)]))
        self.check("block x\nsay 1\ngo y\nblock y\nsay 2\nstop", [], 1, ([1], ("on",), [(0, 0, 1)]))
        self.check("box a 1\nblock x\nsay 1\nask a\ngo x", [], 1, ([1], ("out",), []))
        self.check("box a 1\nblock x\nsay 1\nask a\ngo x", [5], 1, ([1], ("on",), [(0, 0, 0)]))

    def test_a_run_that_needs_four_blocks(self):
        # Three times loop, then done.
        gone = [(0, 0, 0), (0, 0, 0), (0, 1, 1)]
        for bound, said in ((1, [3]), (2, [3, 2]), (3, [3, 2, 1])):
            self.check(LOOP, [], bound, (said, ("on",), gone[:bound]))
        for bound in (4, 5, 6, 100, FIGURE_LIMIT):
            self.check(LOOP, [], bound, ([3, 2, 1, 100], ("stop",), gone))

    def test_out_at_the_bound(self):
        text = text_of("box a 1", "block x", "ask a", "say a", "go x")
        for bound in (1, 2):
            self.check(text, [7, 8], bound, ([7, 8][:bound], ("on",), [(0, 0, 0)] * bound))
        for bound in (3, 4, FIGURE_LIMIT):
            self.check(text, [7, 8], bound, ([7, 8], ("out",), [(0, 0, 0)] * 2))

    def test_a_run_without_end(self):
        self.check("block x\ngo y\nblock y\ngo x", [], 1001, ([], ("on",), [(0, 0, 1), (1, 0, 0)] * 500 + [(0, 0, 1)]))

    def test_statements_do_not_count(self):
        self.check(text_of("block x", *(["say 1"] * 8), "go y", "block y", *(["say 2"] * 8), "stop"), [], 2,
                   ([1] * 8 + [2] * 8, ("stop",), [(0, 0, 1)]))


class ManyRunsTest(RunTest):
    def test_runs_are_as_reckoned_from_the_text(self):
        maker = Maker(8)
        ends = {}
        for turn in range(600):
            text = maker.text(1 + turn % 10)
            program = read(text)
            for numbers in ([], maker.numbers(), maker.numbers()):
                for bound in (1, 2, 3, 30):
                    told = run_by_text(text, numbers, bound)
                    self.assertEqual(run(program, numbers, bound), told, text)
                    ends[told[1]] = ends.get(told[1], 0) + 1
        for end in (("stop",), ("out",), ("on",)):
            self.assertGreater(ends[end], 100)


class BeyondTest(unittest.TestCase):
    def test_nothing_is_refused_for_its_size(self):
        boxes = [(name, 1000 + place) for place, name in enumerate("abcdef")]
        block = ("x", [("say", ("box", name)) for name in "abcdef"] * 2, ("table", ("number", 1006), (0, 1, 2, 3) * 2))
        blocks = [block] + [(f"x{place}", [], ("go", place + 1)) for place in range(1, 11)] + [("end", [], ("stop",))]
        said, end, went = run((boxes, blocks), [10 ** 40], 100)
        self.assertEqual(said, [1000, 1001, 1002, 1003, 1004, 1005] * 2)
        self.assertEqual(end, ("stop",))
        self.assertEqual(went, [(0, 6, 2)] + [(place, 0, place + 1) for place in range(2, 11)])


class WaysTest(unittest.TestCase):
    def check(self, text, told):
        with self.subTest(text):
            got = ways(read(text))
            self.assertEqual(got, told)
            self.assertEqual(kinds_of(got), kinds_of(told))

    def test_none_of_a_stop(self):
        self.check("block x\nstop", [])
        self.check("block x\nstop\nblock y\nstop", [])

    def test_each_kind_of_end(self):
        others = "\nblock y\nstop\nblock z\nstop"
        self.check("block x\ngo z" + others, [(0, 0, 2)])
        self.check("block x\ngo x" + others, [(0, 0, 0)])
        self.check("block x\nif 1 < 2 y else z" + others, [(0, 0, 1), (0, 1, 2)])
        self.check("block x\nif 1 = 2 z else x" + others, [(0, 0, 2), (0, 1, 0)])
        self.check("block x\nif 1 = 2 z else z" + others, [(0, 0, 2), (0, 1, 2)])
        self.check("block x\ntable 1 y" + others, [(0, 0, 1)])
        self.check("block x\ntable 1 z x y z z x" + others, [
            (0, 0, 2), (0, 1, 0), (0, 2, 1), (0, 3, 2), (0, 4, 2), (0, 5, 0)])

    def test_ways_that_no_run_goes_are_told_too(self):
        self.check("block x\nif 1 < 0 y else x\nblock y\ngo z\nblock z\ntable 0 y x", [
            (0, 0, 1), (0, 1, 0), (1, 0, 2), (2, 0, 1), (2, 1, 0)])

    def test_several_blocks(self):
        self.check(EVERY_END, [(0, 0, 1), (1, 0, 0), (1, 1, 2), (1, 2, 4), (1, 3, 0), (2, 0, 0), (2, 1, 4),
                               (3, 0, 4), (3, 1, 4)])

    def test_sorted(self):
        maker = Maker(9)
        for many in range(1, 11):
            told = ways(read(maker.text(many)))
            self.assertEqual(told, sorted(told))

    def test_ten_blocks(self):
        names = "abcdefghij"
        rows = [row for name in names for row in (f"block {name}", f"table 0 {' '.join(reversed(names[:6]))}")]
        self.check(text_of(*rows), [(place, side, 5 - side) for place in range(10) for side in range(6)])


class CountsTest(unittest.TestCase):
    def check(self, text, inputs, bound, told):
        with self.subTest(text=text, inputs=inputs, bound=bound):
            got = counts(read(text), inputs, bound)
            self.assertEqual(got, told)
            self.assertEqual(kinds_of(got), kinds_of(told))

    def test_no_inputs(self):
        self.check(LOOP, [], 9, [0, 0])
        self.check("block x\nstop", [], 9, [])
        self.check(EVERY_END, [], 9, [0] * 9)

    def test_no_ways(self):
        self.check("block x\nsay 1\nstop", [[], [1], []], 9, [])

    def test_one_input(self):
        self.check(LOOP, [[]], 9, [2, 1])
        self.check(LOOP, [[1, 2, 3]], 9, [2, 1])
        self.check(EVERY_END, [[1, 5, 2]], 20, [3, 0, 2, 1, 0, 2, 0, 0, 0])
        self.check(EVERY_END, [[4, 3, 101]], 20, [3, 1, 1, 0, 1, 0, 1, 0, 0])

    def test_several_inputs(self):
        self.check(EVERY_END, [[1, 5, 2], [4, 3, 101]], 20, [6, 1, 3, 1, 1, 2, 1, 0, 0])
        self.check(EVERY_END, [[4, 3, 101], [1, 5, 2]], 20, [6, 1, 3, 1, 1, 2, 1, 0, 0])

    def test_an_input_told_twice_counts_twice(self):
        one = [4, 3, 101]
        self.check(EVERY_END, [one, one], 20, [6, 2, 2, 0, 2, 0, 2, 0, 0])
        self.check(EVERY_END, [[4, 3, 101], [], [4, 3, 101]], 20, [6, 2, 2, 0, 2, 0, 2, 0, 0])

    def test_inputs_without_numbers(self):
        self.check(EVERY_END, [[]], 20, [0] * 9)
        self.check(EVERY_END, [[], [], []], 20, [0] * 9)
        self.check(LOOP, [[], [], []], 9, [6, 3])

    def test_runs_that_go_out_count(self):
        self.check(EVERY_END, [[0]], 20, [1, 1, 0, 0, 0, 0, 0, 0, 0])

    def test_the_bound_is_each_runs_own(self):
        for bound, told in ((1, [1, 0]), (2, [2, 0]), (3, [2, 1]), (4, [2, 1]), (FIGURE_LIMIT, [2, 1])):
            self.check(LOOP, [[]], bound, told)
            self.check(LOOP, [[], [5], []], bound, [3 * count for count in told])

    def test_each_side_of_an_if_counts_by_itself(self):
        text = text_of("box a 0", "block x", "ask a", "if a < 5 x else x")
        self.check(text, [[1, 2, 9], [9, 9, 3, 9]], 50, [3, 4])

    def test_each_place_of_a_table_counts_by_itself(self):
        text = text_of("box a 0", "block x", "ask a", "table a x x x")
        # The box holds rests: of -1 it is 999999, which leaves 0, of -2 999998, which leaves 2.
        self.check(text, [[0, 1, 2, 2], [5, 8, -1, -2]], 50, [2, 1, 5])

    def test_counts_are_as_reckoned_from_the_text(self):
        maker = Maker(99)
        for turn in range(200):
            text = maker.text(1 + turn % 10)
            inputs = [maker.numbers() for more in range(turn % 4)]
            went = [way for numbers in inputs for way in run_by_text(text, numbers, 25)[2]]
            program = read(text)
            self.assertEqual(counts(program, inputs, 25), [went.count(way) for way in ways(program)])


class OwnListsTest(unittest.TestCase):
    def test_nothing_handed_in_is_changed(self):
        program = read(EVERY_END)
        kept = copy.deepcopy(program)
        inputs = [[1, 5, 2], [], [4, 3, 101]]
        run(program, inputs[0], 20)
        ways(program)
        counts(program, inputs, 20)
        self.assertEqual(program, kept)
        self.assertEqual(inputs, [[1, 5, 2], [], [4, 3, 101]])

    def test_the_same_is_answered_the_same(self):
        program = read(EVERY_END)
        for turn in range(3):
            self.assertEqual(run(program, [1, 5, 2], 4), run(read(EVERY_END), [1, 5, 2], 4))
            self.assertEqual(run(program, [], 4), ([], ("out",), []))
            self.assertEqual(counts(program, [[1, 5, 2]], 20), [3, 0, 2, 1, 0, 2, 0, 0, 0])

    def test_lists_are_new_ones(self):
        program = read(LOOP)
        numbers = []
        answers = [run(program, numbers, 9), run(program, numbers, 9), run(program, numbers, 1), ways(program),
                   ways(program), counts(program, [numbers], 9), counts(program, [numbers], 9), program, numbers]
        found = lists_in(answers)
        self.assertEqual(len({id(one) for one in found}), len(found))

    def test_empty_lists_are_new_ones(self):
        program = read("block x\nstop")
        numbers = []
        answers = [run(program, numbers, 1), run(program, numbers, 1), ways(program), ways(program),
                   counts(program, numbers, 1), counts(program, numbers, 1), program, numbers]
        found = lists_in(answers)
        self.assertEqual(len({id(one) for one in found}), len(found))

    def test_what_the_asker_changes_is_not_told_again(self):
        program = read(LOOP)
        for turn in range(2):
            told = [run(program, [], 9), ways(program), counts(program, [[]], 9)]
            self.assertEqual(told, [([3, 2, 1, 100], ("stop",), [(0, 0, 0), (0, 0, 0), (0, 1, 1)]),
                                    [(0, 0, 0), (0, 1, 1)], [2, 1]])
            for found in lists_in(told):
                found.append(5)

    def test_a_program_changed_behind_is_run_as_it_is_now(self):
        boxes, blocks = program = read(LOOP)
        self.assertEqual(run(program, [], 9)[0], [3, 2, 1, 100])
        boxes[0] = ("n", 1)
        self.assertEqual(run(program, [], 9)[0], [1, 100])
        blocks[1][1].append(("say", ("number", 4)))
        self.assertEqual(run(program, [], 9)[0], [1, 100, 4])
        self.assertEqual(counts(program, [[]], 9), [0, 1])
        blocks[0] = ("loop", [], ("go", 1))
        self.assertEqual(ways(program), [(0, 0, 1)])
        self.assertEqual(counts(program, [[]], 9), [1])
        self.assertEqual(run(program, [], 9), ([100, 4], ("stop",), [(0, 0, 1)]))

    def test_inputs_changed_behind_are_run_as_they_are_now(self):
        program = read("box a 1\nblock x\nask a\nsay a\ngo x")
        numbers = [1, 2]
        self.assertEqual(run(program, numbers, 9)[0], [1, 2])
        self.assertEqual(counts(program, [numbers], 9), [2])
        numbers.append(3)
        self.assertEqual(run(program, numbers, 9)[0], [1, 2, 3])
        self.assertEqual(counts(program, [numbers], 9), [3])


if __name__ == "__main__":
    unittest.main()
