"""The desk: point 16, and points 2 and 3 as far as they speak of it."""

import unittest

from blockfall.desk import Desk
from blockfall.errors import NoRow
from blockfall.laying import laid
from blockfall.lengths import lengths
from blockfall.reader import read
from blockfall.runs import ways
from blockfall.turning import turning
from desks import answer, reading_desk, rows_of, told_desk
from helping import COUNTING, Maker, listed_cost, orders_of, run_by_text, text_of

ASKING = "box a 0\nblock x\nask a\nsay a\ngo x"
LONE = "block x\nstop"
# Ways: p to r, p to q, q to r, r to q.
FORKED = text_of("box a 0", "block p", "ask a", "if a < 5 r else q", "block q", "say 1", "go r", "block r", "go q")


class DeskTest(unittest.TestCase):
    def check(self, desk, row, told):
        with self.subTest(row=row):
            got = desk.say(row)
            self.assertEqual(got, told)
            self.assertIs(type(got), str)

    def check_all(self, desk, *told):
        """Rows and their answers, in turn."""
        for row, text in zip(told[::2], told[1::2]):
            self.check(desk, row, text)


class EachKindTest(DeskTest):
    def test_a_whole_talk(self):
        desk = Desk()
        for row in COUNTING.split("\n"):
            self.check(desk, "row " + row, "ok")
        self.check_all(
            desk,
            "read", "blocks 5",
            "counts", "0 0 0 0 0 0",
            "laid 0", "8 12 2",
            "laid 2", "8 10 1",
            "laid 3", "8 8 0",
            "run 3", "3 2 1 100 stop",
            "counts", "1 3 3 1 1 0",
            "run 0", "100 stop",
            "run", "out",
            "counts", "2 3 3 2 2 0",
            "order begin check pick loop done", "cost 8",
            "laid 0", "8 12 2",
            "laid 2", "8 10 1",
            "laid 5", "8 10 1",
            "laid 6", "8 8 0",
            "laid 999", "8 8 0",
            "best", "begin loop check pick done cost 7",
            "laid 3", "8 8 0",
            "turn begin check", "2",
            "turn loop check", "3",
            "turn check loop", "3",
            "turn check pick", "2",
            "turn pick begin", "never",
            "turn pick done", "never",
            "clear", "ok",
        )

    def test_desks_have_nothing_in_common(self):
        one, other = Desk(), Desk()
        one.say("row block x")
        other.say("row block y")
        one.say("row go x")
        other.say("row stop")
        self.check(one, "read", "blocks 1")
        self.check(other, "read", "blocks 1")
        one.say("run")
        self.check(one, "counts", "200")
        self.check(other, "counts", "none")
        self.check(other, "best", "y cost 0")
        self.check(one, "best", "x cost 200")
        other.say("clear")
        self.check(one, "read", "blocks 1")


class RowsTest(DeskTest):
    def test_a_row_of_any_signs(self):
        desk = Desk()
        signs = "".join([chr(place) for place in range(32, 127) if chr(place) != "%"])
        for row in (signs, signs[::-1], "row", "read", "row row", "~", "box a 0", "9" * 5000, "x" * 5000, "-1"):
            self.check(desk, "row " + row, "ok")

    def test_a_row_without_signs_and_with_blanks(self):
        desk = Desk()
        for row in ("row ", "row  ", "row   ", "row  x", "row x ", "row  x  y  "):
            self.check(desk, row, "ok")

    def test_a_row_is_kept_as_it_is(self):
        # A row without signs, or with a blank too many, is no row of a program, wherever it stands.
        for row in ("row ", "row  ", "row  say 1", "row say 1 ", "row say  1"):
            desk = told_desk("row block x", row, "row stop")
            self.assertEqual(answer(desk, "read"), "NoRow")
        desk = told_desk("row block x", "row say 1", "row stop")
        self.check(desk, "read", "blocks 1")
        for row in ("row ", "row  "):
            desk = told_desk("row block x", "row stop", row)
            self.assertEqual(answer(desk, "read"), "NoRow")
            desk = told_desk(row, "row block x", "row stop")
            self.assertEqual(answer(desk, "read"), "NoRow")

    def test_rows_come_in_their_order(self):
        self.check(told_desk("row block x", "row say 1", "row say 2", "row stop", "read"), "run", "1 2 stop")
        self.check(told_desk("row block x", "row say 2", "row say 1", "row stop", "read"), "run", "2 1 stop")

    def test_rows_stay_behind_a_read(self):
        desk = told_desk("row block x", "row go y", "row block y", "row stop", "read")
        self.check_all(desk, "read", "blocks 2", "row block z", "ok", "row say 7", "ok", "row stop", "ok")
        self.check_all(desk, "counts", "0", "best", "x y cost 0", "read", "blocks 3", "best", "x y z cost 0")
        self.check(desk, "read", "blocks 3")

    def test_rows_stay_behind_a_read_that_is_refused(self):
        desk = told_desk("row block x", "row go y", "row block y")
        for turn in range(2):
            self.assertEqual(answer(desk, "read"), "Open")
        desk.say("row stop")
        self.check(desk, "read", "blocks 2")
        self.assertEqual(answer(told_desk(*rows_of(LONE), "row stop"), "read"), "NoPlace")

    def test_clear(self):
        desk = told_desk("row go x", "row whatever", "clear")
        self.assertEqual(answer(desk, "read"), "NoRow")
        self.check_all(desk, "row block x", "ok", "row stop", "ok", "read", "blocks 1")
        self.check_all(desk, "clear", "ok", "clear", "ok")
        self.assertEqual(answer(desk, "read"), "NoRow")
        self.check(Desk(), "clear", "ok")

    def test_a_program_stays_behind_a_clear(self):
        desk = reading_desk(COUNTING, "run 0", "best", "clear")
        self.check_all(
            desk, "counts", "1 0 0 1 1 0", "laid 3", "8 10 1", "run 1", "1 100 stop", "counts", "2 1 1 2 2 0",
            "order begin check loop pick done", "cost 5", "clear", "ok", "laid 999", "8 8 0")

    def test_no_rows(self):
        with self.assertRaises(NoRow):
            Desk().say("read")
        with self.assertRaises(NoRow):
            told_desk("row ").say("read")

    def test_as_many_rows_as_a_program_may_have(self):
        self.assertEqual(answer(told_desk(*["row stop"] * 120), "read"), "NoPlace")
        self.assertEqual(answer(told_desk(*["row stop"] * 121), "read"), "TooLong")
        desk = told_desk(*["row stop"] * 121)
        self.check_all(desk, "clear", "ok", "row block x", "ok", "row stop", "ok", "read", "blocks 1")

    def test_how_many_blocks(self):
        for many in range(1, 11):
            rows = []
            for name in "abcdefghij"[:many]:
                rows += [f"block {name}", "stop"]
            self.check(told_desk(*rows_of(text_of(*rows))), "read", f"blocks {many}")

    def test_blocks_may_be_called_like_the_desks_words(self):
        names = "row clear read run counts best order laid turn cost".split(" ")
        rows = []
        for name, behind in zip(names, names[1:]):
            rows += [f"block {name}", f"go {behind}"]
        desk = reading_desk(text_of(*rows, "block cost", "stop"))
        self.check_all(
            desk, "run", "stop", "best", " ".join(names) + " cost 0", "order " + " ".join(names), "cost 0",
            "turn row clear", "0", "turn order laid", "0",
            "order row cost clear read run counts best order laid turn", "cost 2")


class SecondReadTest(DeskTest):
    def test_counts_are_nought_then(self):
        desk = reading_desk(COUNTING, "run 3", "run 5")
        self.check_all(
            desk, "counts", "2 8 8 2 2 0", "read", "blocks 5", "counts", "0 0 0 0 0 0", "run 3", "3 2 1 100 stop",
            "counts", "1 3 3 1 1 0")

    def test_the_order_is_that_of_the_blocks_then(self):
        desk = reading_desk(COUNTING, "order begin check pick loop done")
        self.check_all(desk, "laid 3", "8 10 1", "read", "blocks 5", "laid 3", "8 8 0")
        desk = reading_desk(FORKED, "run 1")
        self.check_all(
            desk, "laid 0", "4 8 2", "best", "p r q cost 99", "laid 0", "4 6 1", "read", "blocks 3", "laid 0", "4 8 2")

    def test_another_program(self):
        desk = reading_desk(COUNTING, "run 3", "best", "clear", "row block x", "row stop")
        self.check_all(desk, "counts", "1 3 3 1 1 0", "read", "blocks 1", "counts", "none", "laid 0", "1 1 0")
        self.check_all(desk, "best", "x cost 0", "order x", "cost 0", "run", "stop")
        desk = reading_desk(LONE, "clear", *rows_of(COUNTING))
        self.check_all(desk, "counts", "0 0 0 0 0 0", "laid 0", "8 12 2")


class RunTest(DeskTest):
    def test_a_run_that_stops(self):
        self.check(reading_desk(LONE), "run", "stop")
        self.check(reading_desk(LONE), "run 1 2 3", "stop")
        self.check(reading_desk("block x\nsay 5\nsay 0-5\nsay 0\nstop"), "run", "5 -5 0 stop")

    def test_a_run_that_is_out(self):
        self.check(reading_desk(ASKING), "run", "out")
        self.check(reading_desk(ASKING), "run 7", "7 out")
        self.check(reading_desk(ASKING), "run 7 0 999", "7 0 999 out")

    def test_a_run_that_goes_on(self):
        self.check(reading_desk("block x\ngo x"), "run", "on")
        desk = reading_desk("box a 1\nblock x\nsay a\nput a a+1\ngo x")
        self.check(desk, "run", " ".join([str(number) for number in range(1, 201)]) + " on")
        self.check(desk, "counts", "200")

    def test_the_bound_is_of_200_blocks(self):
        for many, told in ((198, "7 stop"), (199, "7 stop"), (200, "on"), (201, "on")):
            text = f"box a {many}\nblock x\nput a a-1\nif 0 < a x else y\nblock y\nsay 7\nstop"
            desk = reading_desk(text)
            self.check(desk, "run", told)
            self.check(desk, "counts", f"{min(many - 1, 200)} {1 if many < 201 else 0}")

    def test_forty_numbers(self):
        numbers = " ".join([str(25 * place % 1000) for place in range(40)])
        desk = reading_desk(ASKING)
        self.check(desk, "run " + numbers, numbers + " out")
        self.check(desk, "counts", "40")
        self.check(desk, "run " + " ".join(["999"] * 40), " ".join(["999"] * 40) + " out")
        self.check(desk, "counts", "80")

    def test_great_numbers_are_said_whole(self):
        factors = "*".join(["999"] * 15)
        self.check(reading_desk(f"block x\nsay {factors}\nstop"), "run", f"{999 ** 15} stop")
        self.check(reading_desk(f"block x\nsay 0-{factors[4:]}\nstop"), "run", f"-{999 ** 14} stop")

    def test_each_run_begins_anew(self):
        desk = reading_desk("box a 5\nblock x\nsay a\nput a a+1\nsay a\nstop")
        for turn in range(3):
            self.check(desk, "run", "5 6 stop")

    def test_counts_are_added_up(self):
        desk = reading_desk(COUNTING)
        self.check_all(
            desk, "run 3", "3 2 1 100 stop", "counts", "1 3 3 1 1 0", "run", "out", "counts", "1 3 3 1 1 0",
            "run 0", "100 stop", "counts", "2 3 3 2 2 0", "run 1 9 9", "1 100 stop", "counts", "3 4 4 3 3 0")
        # From 999 on there is no end within 200 blocks: 100 times check, and 99 times loop.
        desk.say("run 999")
        self.check(desk, "counts", "4 103 104 3 3 0")

    def test_counts_of_runs_by_the_text(self):
        maker = Maker(41)
        for turn in range(60):
            text = maker.text(1 + turn % 6)
            desk = reading_desk(text)
            told = ways(read(text))
            counted = [0] * len(told)
            for more in range(4):
                numbers = [maker.chance.randrange(1000) for number in range(maker.chance.randrange(41))]
                said, end, went = run_by_text(text, numbers, 200)
                for way in went:
                    counted[told.index(way)] += 1
                row = " ".join(["run"] + [str(number) for number in numbers])
                self.check(desk, row, " ".join([str(number) for number in said] + [end[0]]))
                self.check(desk, "counts", " ".join([str(count) for count in counted]) or "none")


class CountsTest(DeskTest):
    def test_a_program_without_ways(self):
        desk = reading_desk("block x\nstop\nblock y\nsay 1\nstop")
        self.check_all(desk, "counts", "none", "run", "stop", "counts", "none")

    def test_one_way(self):
        self.check(reading_desk("block x\ngo y\nblock y\nstop"), "counts", "0")

    def test_the_order_of_the_ways(self):
        text = text_of(
            "box a 0", "block x", "ask a", "table a y y z x", "block y", "if a < 4 x else z", "block z", "go z")
        desk = reading_desk(text)
        # Numbers 3, 0, 1, 5: to x, to y and back, to y by the second side and back, to y and to z for good.
        desk.say("run 3 0 1 5")
        self.check(desk, "counts", "1 2 0 1 2 1 193")

    def test_asking_changes_nothing(self):
        desk = reading_desk(COUNTING, "run 3")
        for turn in range(3):
            self.check(desk, "counts", "1 3 3 1 1 0")
        self.check_all(desk, "laid 0", "8 12 2", "counts", "1 3 3 1 1 0", "best", "begin loop check pick done cost 5")
        self.check_all(desk, "counts", "1 3 3 1 1 0", "turn loop check", "3", "counts", "1 3 3 1 1 0")


class OrderTest(DeskTest):
    def test_without_counts(self):
        desk = reading_desk(COUNTING)
        self.check(desk, "best", "begin loop check pick done cost 0")
        self.check(desk, "order begin done pick check loop", "cost 0")

    def test_best_is_the_desks_order_then(self):
        desk = reading_desk(FORKED, "run 1")
        self.check_all(desk, "laid 0", "4 8 2", "best", "p r q cost 99", "laid 0", "4 6 1", "best", "p r q cost 99")
        desk.say("read")
        self.check_all(desk, "best", "p q r cost 0", "laid 0", "4 8 2")

    def test_order_is_the_desks_order_then(self):
        desk = reading_desk(COUNTING, "run 3")
        self.check_all(
            desk, "order begin done pick check loop", "cost 6", "laid 999", "9 9 0",
            "order begin loop check pick done", "cost 5", "laid 999", "8 8 0",
            "order begin done pick check loop", "cost 6", "laid 999", "9 9 0",
            "best", "begin loop check pick done cost 5", "laid 999", "8 8 0")

    def test_best_tells_of_the_counts_whatever_the_order(self):
        desk = reading_desk(COUNTING, "run 3", "order begin done pick check loop")
        self.check(desk, "best", "begin loop check pick done cost 5")
        for turn in range(3):
            desk.say("run 0")
        self.check(desk, "best", "begin check pick loop done cost 10")

    def test_a_run_does_not_change_the_order(self):
        desk = reading_desk(FORKED, "order p r q")
        self.check_all(desk, "laid 0", "4 6 1", "run 9", "1 " * 100 + "on", "laid 0", "4 6 1")

    def test_one_block(self):
        desk = reading_desk("block x\ngo x", "run")
        self.check_all(desk, "order x", "cost 200", "best", "x cost 200", "laid 0", "1 3 1", "laid 1", "1 1 0")

    def test_ten_blocks(self):
        names = "abcdefghij"
        order = "ahdjbicgef"
        ends = dict(zip(order, [f"go {name}" for name in order[1:]] + ["stop"]))
        desk = reading_desk(text_of(*[row for name in names for row in (f"block {name}", ends[name])]))
        self.check_all(desk, "run", "stop", "order a b c d e f g h i j", "cost 8")
        self.check_all(desk, "laid 999", "9 9 0", "best", "a h d j b i c g e f cost 0", "laid 0", "1 1 0")

    def test_best_and_order_of_programs_against_all_orders(self):
        maker = Maker(42)
        for turn in range(40):
            text = maker.text(1 + turn % 5)
            program = read(text)
            names = [block[0] for block in program[1]]
            desk = reading_desk(text, "run 1 2 3", "run 0 900 17 4", "run")
            shown = desk.say("counts")
            counted = [] if shown == "none" else [int(word) for word in shown.split(" ")]
            orders = list(orders_of(len(names)))
            costs = [listed_cost(program, order, counted) for order in orders]
            for order, jumps in zip(orders, costs):
                self.check(desk, " ".join(["order"] + [names[place] for place in order]), f"cost {jumps}")
                self.check_laid(desk, program, order)
            told = orders[costs.index(min(costs))]
            self.check(desk, "best", " ".join([names[place] for place in told]) + f" cost {min(costs)}")
            self.check_laid(desk, program, told)

    def check_laid(self, desk, program, order):
        rows = laid(program, order)
        for reach in (0, 2, 5):
            told = lengths(rows, reach)
            long_ones = len([number for number in told if number == 3])
            self.check(desk, f"laid {reach}", f"{len(rows)} {sum(told)} {long_ones}")


class LaidTest(DeskTest):
    def test_reaches(self):
        rows = ["block x", "if 1 < 2 z else x"] + ["block y"] + ["say 1"] * 8 + ["stop", "block z", "stop"]
        desk = reading_desk(text_of(*rows))
        # A when over the jump and nine rows, and a jump to the when.
        self.check_all(
            desk, "laid 0", "12 16 2", "laid 2", "12 16 2", "laid 3", "12 16 2", "laid 4", "12 14 1",
            "laid 9", "12 14 1", "laid 10", "12 12 0", "laid 99", "12 12 0", "laid 999", "12 12 0")

    def test_no_jumps(self):
        desk = reading_desk("block x\nsay 1\ngo y\nblock y\nstop")
        self.check_all(desk, "laid 0", "2 2 0", "laid 999", "2 2 0")

    def test_jumps_alone(self):
        desk = reading_desk("block x\ngo x")
        self.check_all(desk, "laid 0", "1 3 1", "laid 1", "1 1 0", "laid 999", "1 1 0")


class TurnTest(DeskTest):
    def test_ways_without_a_number(self):
        text = text_of("box a 0", "block x", "table a y z", "block y", "if a < 1 x else y", "block z", "go x")
        desk = reading_desk(text, "run")
        for row in ("turn x y", "turn x z", "turn y x", "turn y y", "turn z x"):
            self.check(desk, row, "never")

    def test_the_first_way_of_several(self):
        # Both sides lead to z: told is of the first one, the second one's count as it is.
        text = text_of(
            "box a 0", "block x", "ask a", "if a < 5 z else z", "block y", "go z", "block z", "ask a", "table a y x")
        desk = reading_desk(text)
        self.check_all(desk, "run 1 0 0 0 1 1 1 9", "out", "counts", "2 1 3 3 2", "turn x z", "2", "turn y z", "3")
        # Of a table the first way is one of several like it.
        self.check(reading_desk("block x\ntable 1 y y\nblock y\nstop"), "turn x y", "never")

    def test_the_second_side_alone(self):
        desk = reading_desk(FORKED, "run 1")
        # Behind p stand r, q, which saves p to r and r to q, or q, r, which saves p to q and q to r.
        self.check_all(
            desk, "counts", "1 0 99 100", "turn p r", "0", "turn p q", "2", "turn q r", "101", "turn r q", "98")

    def test_turning_follows_the_counts(self):
        desk = reading_desk(COUNTING)
        self.check_all(desk, "turn check loop", "0", "turn loop check", "0")
        desk.say("run 3")
        self.check_all(desk, "turn check loop", "3", "turn loop check", "3", "turn begin check", "1")

    def test_the_order_makes_no_difference(self):
        desk = reading_desk(COUNTING, "run 3")
        told = [desk.say(row) for row in ("turn begin check", "turn loop check", "turn check loop")]
        desk.say("order begin done pick check loop")
        self.assertEqual([desk.say(row) for row in ("turn begin check", "turn loop check", "turn check loop")], told)
        self.check(desk, "laid 999", "9 9 0")

    def test_every_way_of_programs(self):
        maker = Maker(43)
        for turn in range(40):
            text = maker.text(1 + turn % 6)
            program = read(text)
            names = [block[0] for block in program[1]]
            desk = reading_desk(text, "run 1 2 3", "run 0 900 17 4", "run")
            counted = [int(word) for word in desk.say("counts").split(" ") if word != "none"]
            first_ways = {}
            for way in ways(program):
                first_ways.setdefault((way[0], way[2]), way)
            for (one, other), way in first_ways.items():
                told = turning(program, counted, way)
                self.check(desk, f"turn {names[one]} {names[other]}", "never" if told is None else str(told))


if __name__ == "__main__":
    unittest.main()
