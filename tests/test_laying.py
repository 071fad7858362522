"""Laid rows and their runs: points 10 and 11, and points 2 and 3 as far as they speak of them."""

import copy
import unittest

from blockfall.laying import laid, run_rows
from blockfall.reader import read
from blockfall.runs import run
from helping import COUNTING, FIGURE_LIMIT, Maker, kinds_of, lists_in, orders_of, run_rows_by_text, text_of

ONE, TWO = ("number", 1), ("number", 2)
A = ("box", "a")
SAY_ONE, SAY_TWO = ("say", ONE), ("say", TWO)
STOP = ("stop",)


class LaidTest(unittest.TestCase):
    def check(self, text, order, told):
        with self.subTest(text=text, order=order):
            got = laid(read(text), order)
            self.assertEqual(got, told)
            self.assertEqual(kinds_of(got), kinds_of(told))

    def ends(self, row, order, told):
        """Of three blocks, the first with this end, the others each a say and a stop: the first one's end rows."""
        text = text_of("box a 0", "block x", row, "block y", "say 1", "stop", "block z", "say 2", "stop")
        others = {1: [SAY_ONE, STOP], 2: [SAY_TWO, STOP]}
        self.check(text, order, told + others[order[1]] + others[order[2]])


class GoTest(LaidTest):
    def test_the_block_stands_next(self):
        self.ends("go y", (0, 1, 2), [])
        self.ends("go z", (0, 2, 1), [])

    def test_the_block_does_not_stand_next(self):
        self.ends("go z", (0, 1, 2), [("jump", 3)])
        self.ends("go y", (0, 2, 1), [("jump", 3)])

    def test_to_itself(self):
        self.ends("go x", (0, 1, 2), [("jump", 0)])
        self.check("block x\ngo x", (0,), [("jump", 0)])
        self.check("block x\nsay 1\ngo x", (0,), [SAY_ONE, ("jump", 0)])

    def test_the_last_block(self):
        self.check("block x\nsay 1\ngo y\nblock y\nsay 2\ngo x", (0, 1), [SAY_ONE, SAY_TWO, ("jump", 0)])
        self.check("block x\nsay 1\ngo y\nblock y\nsay 2\ngo y", (0, 1), [SAY_ONE, SAY_TWO, ("jump", 1)])


class IfTest(LaidTest):
    def test_the_first_one_stands_next(self):
        self.ends("if a < 1 y else z", (0, 1, 2), [("unless", "<", A, ONE, 3)])
        self.ends("if a = 2 z else y", (0, 2, 1), [("unless", "=", A, TWO, 3)])
        self.ends("if a = 1 y else x", (0, 1, 2), [("unless", "=", A, ONE, 0)])

    def test_the_second_one_stands_next(self):
        self.ends("if a < 1 z else y", (0, 1, 2), [("when", "<", A, ONE, 3)])
        self.ends("if a = 2 y else z", (0, 2, 1), [("when", "=", A, TWO, 3)])
        self.ends("if a < 2 x else z", (0, 2, 1), [("when", "<", A, TWO, 0)])

    def test_neither_stands_next(self):
        self.ends("if a < 1 x else z", (0, 1, 2), [("when", "<", A, ONE, 0), ("jump", 4)])
        self.ends("if a = 1 z else x", (0, 1, 2), [("when", "=", A, ONE, 4), ("jump", 0)])
        text = "box a 0\nblock w\nif 1 < a y else z\nblock x\nstop\nblock y\nstop\nblock z\nstop"
        self.check(text, (0, 1, 2, 3), [("when", "<", ONE, A, 3), ("jump", 4), STOP, STOP, STOP])
        self.check(text, (0, 1, 3, 2), [("when", "<", ONE, A, 4), ("jump", 3), STOP, STOP, STOP])

    def test_both_are_one_block(self):
        self.ends("if a < 1 y else y", (0, 1, 2), [])
        self.ends("if a = 1 z else z", (0, 2, 1), [])
        self.ends("if a < 1 y else y", (0, 2, 1), [("jump", 3)])
        self.ends("if a = 1 z else z", (0, 1, 2), [("jump", 3)])
        self.ends("if a = 1 x else x", (0, 1, 2), [("jump", 0)])

    def test_the_last_block(self):
        self.check("box a 0\nblock x\nif a < 1 x else x", (0,), [("jump", 0)])
        text = "box a 0\nblock x\ngo y\nblock y\nif a = 1 x else y"
        self.check(text, (0, 1), [("when", "=", A, ONE, 0), ("jump", 0)])
        text = "box a 0\nblock x\nsay 1\ngo y\nblock y\nif a = 1 y else x"
        self.check(text, (0, 1), [SAY_ONE, ("when", "=", A, ONE, 1), ("jump", 0)])


class TableAndStopTest(LaidTest):
    def test_tables(self):
        self.ends("table a y", (0, 1, 2), [("table", A, (1,))])
        self.ends("table a y", (0, 2, 1), [("table", A, (3,))])
        self.ends("table a+1 x y z y x z", (0, 1, 2), [("table", ("+", A, ONE), (0, 1, 3, 1, 0, 3))])
        self.ends("table a+1 x y z y x z", (0, 2, 1), [("table", ("+", A, ONE), (0, 3, 1, 3, 0, 1))])
        self.ends("table a y y", (0, 1, 2), [("table", A, (1, 1))])

    def test_stops(self):
        self.ends("stop", (0, 1, 2), [STOP])
        self.ends("stop", (0, 2, 1), [STOP])
        self.check("block x\nstop", (0,), [STOP])


class WholeTest(LaidTest):
    def test_statements_stand_as_they_are(self):
        text = text_of("box a 0", "block x", "ask a", "put a a+1", "say 2", "say 2", "stop")
        self.check(text, (0,), [("ask", "a"), ("put", "a", ("+", A, ONE)), SAY_TWO, SAY_TWO, STOP])

    def test_statements_stand_ahead_of_the_end(self):
        text = text_of("box a 0", "block x", "say 1", "say 2", "if a < 1 x else y", "block y", "say 2", "stop")
        self.check(text, (0, 1), [SAY_ONE, SAY_TWO, ("when", "<", A, ONE, 0), SAY_TWO, STOP])

    def test_blocks_without_rows(self):
        # x falls to y, y to z: neither has rows, and both begin where z does.
        text = "block x\ngo y\nblock y\ngo z\nblock z\nsay 1\ngo w\nblock w\ntable 1 x y z w"
        self.check(text, (0, 1, 2, 3), [SAY_ONE, ("table", ONE, (0, 0, 0, 1))])
        self.check(text, (0, 1, 3, 2), [("jump", 2), ("table", ONE, (0, 0, 2, 1)), SAY_ONE, ("jump", 1)])
        self.check(text, (0, 3, 1, 2), [("jump", 2), ("table", ONE, (0, 2, 2, 1)), SAY_ONE, ("jump", 1)])
        self.check(text, (0, 2, 1, 3), [
            ("jump", 3), SAY_ONE, ("jump", 4), ("jump", 1), ("table", ONE, (0, 3, 1, 4))])

    def test_blocks_without_rows_behind_others(self):
        text = "block x\nsay 1\nsay 1\ntable 1 x y z w\nblock y\ngo z\nblock z\nif 1 < 2 w else w\nblock w\nstop"
        self.check(text, (0, 1, 2, 3), [SAY_ONE, SAY_ONE, ("table", ONE, (0, 3, 3, 3)), STOP])
        self.check(text, (0, 2, 3, 1), [SAY_ONE, SAY_ONE, ("table", ONE, (0, 4, 3, 3)), STOP, ("jump", 3)])

    def test_a_last_block_without_statements_has_a_row(self):
        self.check("block x\nsay 1\ngo y\nblock y\ngo x", (0, 1), [SAY_ONE, ("jump", 0)])
        self.check("block x\ngo z\nblock y\ngo z\nblock z\nstop", (0, 2, 1), [STOP, ("jump", 0)])
        self.check("block x\ngo y\nblock y\ngo y", (0, 1), [("jump", 0)])

    def test_a_jump_over_blocks_without_rows(self):
        self.check("block x\ngo z\nblock y\ngo z\nblock z\nstop", (0, 1, 2), [("jump", 1), STOP])

    def test_orders_that_put_blocks_otherwise(self):
        zero = ("number", 0)
        down, hundred = ("put", "a", ("-", A, ONE)), ("say", ("number", 100))
        self.check(COUNTING, (0, 1, 2, 3, 4), [
            ("ask", "a"), ("jump", 4), ("say", A), down, ("when", "<", zero, A, 2), hundred, ("table", A, (7, 0)),
            STOP])
        self.check(COUNTING, (0, 2, 1, 3, 4), [
            ("ask", "a"), ("unless", "<", zero, A, 5), ("say", A), down, ("jump", 1), hundred, ("table", A, (7, 0)),
            STOP])
        self.check(COUNTING, (0, 4, 3, 2, 1), [
            ("ask", "a"), ("jump", 5), STOP, hundred, ("table", A, (2, 0)), ("unless", "<", zero, A, 3), ("say", A),
            down, ("jump", 5)])
        self.check(COUNTING, (0, 3, 1, 4, 2), [
            ("ask", "a"), ("jump", 8), hundred, ("table", A, (7, 0)), ("say", A), down, ("jump", 8), STOP,
            ("when", "<", zero, A, 4), ("jump", 2)])

    def test_ten_blocks_backwards(self):
        names = "abcdefghij"
        rows = []
        for place, name in enumerate(names):
            rows += [f"block {name}", f"say {place}", f"go {names[(place + 1) % 10]}"]
        order = (0, 9, 8, 7, 6, 5, 4, 3, 2, 1)
        told = []
        for place in order:
            told += [("say", ("number", place)), ("jump", 2 * order.index((place + 1) % 10))]
        self.check(text_of(*rows), order, told)
        told = [("say", ("number", place)) for place in range(10)] + [("jump", 0)]
        self.check(text_of(*rows), tuple(range(10)), told)

    def test_more_blocks_than_are_read(self):
        blocks = [(f"x{place}", [], ("go", (place + 1) % 13)) for place in range(13)]
        self.assertEqual(laid(([], blocks), tuple(range(13))), [("jump", 0)])


class RunRowsTest(unittest.TestCase):
    def check(self, boxes, rows, numbers, bound, told):
        with self.subTest(rows=rows, numbers=numbers, bound=bound):
            got = run_rows(boxes, rows, numbers, bound)
            self.assertEqual(got, told)
            self.assertEqual(kinds_of(got), kinds_of(told))

    def says(self, statements, numbers, said):
        boxes, blocks = program = read(text_of("box a 3", "box b 4", "block x", *statements, "stop"))
        self.check(boxes, laid(program, (0,)), numbers, 100, (said, ("stop",), 0))

    def test_statements(self):
        self.says([], [], [])
        self.says(["say a", "say b", "put a a+b", "say a", "say a"], [], [3, 4, 7, 7])
        self.says(["ask b", "say a", "say b", "ask a", "say a", "say b"], [7, 8, 9], [3, 7, 8, 7])

    def test_puts_and_asks_hold_rests_and_says_are_as_they_are(self):
        self.says(["put a 0-1", "say a", "put a a+1", "say a", "put a 999*999*999", "say a"], [], [999999, 0, 2999])
        self.says(["say 0-1", "say 500*500*4", "say 0-999*999*999"], [], [-1, 10 ** 6, -(999 ** 3)])
        for number, held in ((10 ** 6, 0), (-1, 999999), (FIGURE_LIMIT, 999999), (-FIGURE_LIMIT, 1), (999999, 999999)):
            self.says(["ask a", "say a"], [number], [held])

    def goes(self, row, told, jumps):
        """A row of an end, ahead of a row that says 1 and one that says 2."""
        rows = [row, SAY_ONE, STOP, SAY_TWO, STOP]
        self.check([("a", 5)], rows, [], 10, ([told], ("stop",), jumps))

    def test_jumps(self):
        self.goes(("jump", 3), 2, 1)
        self.goes(("jump", 1), 1, 1)

    def test_whens(self):
        six, five, four = ("number", 6), ("number", 5), ("number", 4)
        self.goes(("when", "<", A, six, 3), 2, 1)
        self.goes(("when", "<", A, five, 3), 1, 0)
        self.goes(("when", "<", A, four, 3), 1, 0)
        self.goes(("when", "=", A, five, 3), 2, 1)
        self.goes(("when", "=", A, six, 3), 1, 0)
        self.goes(("when", "=", A, five, 1), 1, 1)

    def test_unlesses(self):
        six, five, four = ("number", 6), ("number", 5), ("number", 4)
        self.goes(("unless", "<", A, six, 3), 1, 0)
        self.goes(("unless", "<", A, five, 3), 2, 1)
        self.goes(("unless", "<", A, four, 3), 2, 1)
        self.goes(("unless", "=", A, five, 3), 1, 0)
        self.goes(("unless", "=", A, six, 3), 2, 1)
        self.goes(("unless", "=", A, six, 1), 1, 1)

    def test_tables(self):
        for number, told in ((0, 2), (1, 1), (2, 1), (3, 2), (4, 1), (6, 2)):
            self.goes(("table", ("number", number), (3, 1, 1)), told, 1)
        self.goes(("table", ("-", ("number", 0), ONE), (3, 3, 1)), 1, 1)
        self.goes(("table", ("-", ("number", 0), TWO), (3, 1, 3)), 1, 1)
        self.goes(("table", ("number", 10 ** 6), (1, 3, 1)), 2, 1)
        self.goes(("table", A, (3,)), 2, 1)

    def test_jumps_back(self):
        rows = [("say", A), ("put", "a", ("-", A, ONE)), ("when", "<", ("number", 0), A, 0), STOP]
        self.check([("a", 3)], rows, [], 100, ([3, 2, 1], ("stop",), 2))
        self.check([("a", 1)], rows, [], 100, ([1], ("stop",), 0))

    def test_a_bound_of_one(self):
        self.check([], [STOP], [], 1, ([], ("stop",), 0))
        self.check([], [SAY_ONE, STOP], [], 1, ([1], ("on",), 0))
        self.check([], [("jump", 0)], [], 1, ([], ("on",), 1))
        self.check([("a", 1)], [("ask", "a"), STOP], [], 1, ([], ("out",), 0))
        self.check([("a", 1)], [("ask", "a"), STOP], [4], 1, ([], ("on",), 0))
        self.check([("a", 1)], [("when", "=", A, TWO, 0), STOP], [4], 1, ([], ("on",), 0))
        self.check([("a", 1)], [("unless", "=", A, TWO, 0), STOP], [4], 1, ([], ("on",), 1))
        self.check([("a", 1)], [("table", A, (0,))], [4], 1, ([], ("on",), 1))

    def test_a_stop_as_the_next_row(self):
        rows = [SAY_ONE, SAY_TWO, STOP]
        for bound, told in ((1, ([1], ("on",), 0)), (2, ([1, 2], ("on",), 0)), (3, ([1, 2], ("stop",), 0)),
                            (4, ([1, 2], ("stop",), 0)), (FIGURE_LIMIT, ([1, 2], ("stop",), 0))):
            self.check([], rows, [], bound, told)

    def test_an_ask_without_a_number_as_the_next_row(self):
        rows = [("say", A), ("ask", "a"), ("say", A), ("ask", "a"), STOP]
        for bound, told in ((1, ([5], ("on",), 0)), (2, ([5], ("out",), 0)), (3, ([5], ("out",), 0))):
            self.check([("a", 5)], rows, [], bound, told)
        for bound, told in ((1, ([5], ("on",), 0)), (2, ([5], ("on",), 0)), (3, ([5, 7], ("on",), 0)),
                            (4, ([5, 7], ("out",), 0)), (FIGURE_LIMIT, ([5, 7], ("out",), 0))):
            self.check([("a", 5)], rows, [7], bound, told)
        for bound, told in ((4, ([5, 7], ("on",), 0)), (5, ([5, 7], ("stop",), 0))):
            self.check([("a", 5)], rows, [7, 8], bound, told)

    def test_every_row_counts_for_the_bound(self):
        # A when that falls through, a jump, a table and a statement are a row each.
        rows = [("when", "=", ONE, TWO, 0), ("jump", 3), STOP, ("table", ONE, (2, 4)), SAY_ONE,
                ("unless", "=", ONE, ONE, 0), ("jump", 0)]
        jumps = [0, 1, 2, 2, 2, 3]
        for bound in range(1, 7):
            self.check([], rows, [], bound, ([1] if bound > 3 else [], ("on",), jumps[bound - 1]))
        self.check([], rows, [], 60, ([1] * 10, ("on",), 30))

    def test_counting(self):
        boxes, blocks = program = read(COUNTING)
        for order, jumps in (((0, 1, 2, 3, 4), 5), ((0, 2, 1, 3, 4), 5), ((0, 4, 3, 2, 1), 6), ((0, 3, 1, 4, 2), 9)):
            self.check(boxes, laid(program, order), [3], 100, ([3, 2, 1, 100], ("stop",), jumps))


class SameAsBlocksTest(unittest.TestCase):
    def jumps_of(self, program, order, went):
        """How often ways gone jump where blocks stand so: point 12, way by way."""
        behind = dict(zip(order, order[1:]))
        jumps = 0
        for place, side, to in went:
            if program[1][place][2][0] == "table" or behind.get(place) != to:
                jumps += 1
        return jumps

    def check_same(self, program, order, numbers, bound):
        said, end, went = run(program, numbers, bound)
        if end != ("on",):
            told = run_rows(program[0], laid(program, order), numbers, 10000)
            self.assertEqual(told, (said, end, self.jumps_of(program, order, went)))
        return end

    def test_every_order_says_and_ends_as_the_blocks_do(self):
        program = read(COUNTING)
        for order in orders_of(5):
            for numbers in ([], [0], [1], [5], [-999998], [2, 3], [FIGURE_LIMIT - 999990]):
                self.assertNotEqual(self.check_same(program, order, numbers, 100), ("on",))

    def test_many_programs_say_and_end_as_their_blocks_do(self):
        maker = Maker(10)
        ends = []
        for turn in range(400):
            many = 1 + turn % 10
            program = read(maker.text(many))
            for more in range(4):
                ends.append(self.check_same(program, maker.order(many), maker.numbers(), 60))
        self.assertGreater(ends.count(("stop",)), 100)
        self.assertGreater(ends.count(("out",)), 100)

    def test_rows_are_run_as_reckoned_from_the_text(self):
        maker = Maker(11)
        ends = {}
        for turn in range(300):
            many = 1 + turn % 10
            text = maker.text(many)
            program = read(text)
            order, numbers = maker.order(many), maker.numbers()
            rows = laid(program, order)
            for bound in list(range(1, 12)) + [40]:
                told = run_rows_by_text(text, order, numbers, bound)
                self.assertEqual(run_rows(program[0], rows, numbers, bound), told, (text, order, bound))
                ends[told[1]] = ends.get(told[1], 0) + 1
        for end in (("stop",), ("out",), ("on",)):
            self.assertGreater(ends[end], 100)

    def test_every_row_leads_to_a_row(self):
        maker = Maker(12)
        for turn in range(200):
            many = 1 + turn % 10
            program = read(maker.text(many, 1))
            rows = laid(program, maker.order(many))
            for row in rows:
                tos = row[2] if row[0] == "table" else row[-1:] if row[0] in ("jump", "when", "unless") else ()
                self.assertTrue(all(0 <= to < len(rows) for to in tos), rows)
            self.assertNotIn(rows[-1][0], ("put", "say", "ask", "when", "unless"))


class OwnListsTest(unittest.TestCase):
    def test_nothing_handed_in_is_changed(self):
        program = read(COUNTING)
        kept = copy.deepcopy(program)
        numbers = [3, 4]
        rows = laid(program, (0, 2, 1, 4, 3))
        kept_rows = copy.deepcopy(rows)
        run_rows(program[0], rows, numbers, 100)
        run_rows(program[0], rows, numbers, 3)
        self.assertEqual((program, rows, numbers), (kept, kept_rows, [3, 4]))

    def test_lists_are_new_ones(self):
        for text, order in (("block x\nstop", (0,)), ("block x\nsay 1\ngo y\nblock y\ngo x", (0, 1)),
                            (COUNTING, (0, 1, 2, 3, 4))):
            program = read(text)
            rows = laid(program, order)
            numbers = []
            answers = [program, numbers, rows, laid(program, order), run_rows(program[0], rows, numbers, 9),
                       run_rows(program[0], rows, numbers, 9)]
            found = lists_in(answers)
            self.assertEqual(len({id(one) for one in found}), len(found))

    def test_what_the_asker_changes_is_not_told_again(self):
        program = read("block x\nsay 1\ngo y\nblock y\nsay 2\nstop")
        for turn in range(2):
            rows = laid(program, (0, 1))
            self.assertEqual(rows, [SAY_ONE, SAY_TWO, STOP])
            told = run_rows(program[0], rows, [], 9)
            self.assertEqual(told, ([1, 2], ("stop",), 0))
            rows.insert(0, SAY_TWO)
            told[0].append(7)

    def test_what_is_changed_behind_is_taken_as_it_is_now(self):
        boxes, blocks = program = read("box a 3\nblock x\nask a\nsay a\ngo y\nblock y\nstop")
        rows = laid(program, (0, 1))
        numbers = [4]
        self.assertEqual(run_rows(boxes, rows, numbers, 9), ([4], ("stop",), 0))
        numbers[0] = 5
        self.assertEqual(run_rows(boxes, rows, numbers, 9), ([5], ("stop",), 0))
        rows[0] = SAY_ONE
        self.assertEqual(run_rows(boxes, rows, numbers, 9), ([1, 3], ("stop",), 0))
        boxes[0] = ("a", 8)
        self.assertEqual(run_rows(boxes, rows, numbers, 9), ([1, 8], ("stop",), 0))
        blocks[0][1].append(SAY_TWO)
        self.assertEqual(laid(program, (0, 1)), [("ask", "a"), ("say", A), SAY_TWO, STOP])


if __name__ == "__main__":
    unittest.main()
