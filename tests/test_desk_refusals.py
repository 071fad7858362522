"""The desk's refusals: point 17, and that behind each the desk answers as one that was never asked."""

import unittest

from blockfall import errors
from blockfall.desk import Desk
from desks import answer, reading_desk, rows_of, told_desk
from helping import COUNTING, text_of

NUMBERS = " ".join(["7"] * 40)
# Ways: x to y, y to x, y to z by the second and the third side. No way leads from x to z, nor any from z.
LINKED = text_of("block x", "go y", "block y", "table 1 x z z", "block z", "stop")
OF_NO_FORM = (
    # Without signs, and words that begin none.
    "", " ", "  ", "x", "ok", "help", "rows x", "ro", "Row x", "ROW x", "rowx", "row", "box a 0", "block x",
    "stop", "say 1",
    # Otherwise written.
    "Clear", "CLEAR", "clears", "clea", "Read", "reads", "Run", "runs", "run1", "Counts", "count", "countss", "Best",
    "bests", "Order x y z", "orders x y z", "Laid 1", "lay 1", "laid1", "Turn x y", "turns x y", "turn-x-y", "run,1",
    # Words too many.
    "clear x", "clear 1", "clear clear", "read x", "read 1", "counts x", "counts 0", "best x", "best best",
    "laid 1 2", "laid 1 x", "turn x y z", "turn x y 1", "run x", "run 1 x", "run x 1",
    # Words lacking.
    "order", "laid", "turn", "turn x",
    # Blanks ahead, behind and twice.
    " row x", " clear", " read", " run", " run 1", " counts", " best", " order x y z", " laid 1", " turn x y",
    "clear ", "read ", "run ", "run 1 ", "counts ", "best ", "order ", "order x y z ", "laid ", "laid 1 ", "turn ",
    "turn x ", "turn x y ", "run  1", "run 1  2", "order  x y z", "order x  y z", "laid  1", "turn  x y", "turn x  y",
    "clear  ", "  counts",
    # Numbers that are none.
    "run 00", "run 01", "run 007", "run 1 00", "run 1000", "run 1 9999", "run -1", "run +1", "run 1.0", "run 1,2",
    "run 0x1", "run 1_0", "run " + "1" * 5000, "run " + "0" * 5000, "laid 00", "laid 01", "laid 099", "laid 1000",
    "laid 9999", "laid -1", "laid +1", "laid x", "laid 1x", "laid x1", "laid " + "9" * 5000,
    # 41 numbers and more.
    "run " + NUMBERS + " 7", "run " + NUMBERS + " " + NUMBERS, "run " + NUMBERS + " x", "run " + NUMBERS + " ",
    # Names that are none.
    "order X", "order x Y z", "order x y z1", "order 1", "order x y 3", "order x-y", "order x,y,z", "order abcdefghi",
    "order x y abcdefghi", "order " + "x" * 5000, "turn X y", "turn x Y", "turn 1 y", "turn x 1", "turn abcdefghi y",
    "turn x abcdefghi", "turn x y2", "turn _ y", "turn x " + "y" * 5000,
    # Words that no name may be.
    "order box", "order x y stop", "order block y z", "turn go y", "turn x if", "turn else table", "turn put y",
    "turn x say", "turn ask y",
    # Line feeds.
    "\n", "row a\nb", "row \n", "row\n", "row x\n", "\nrow x", "row\nx", "clear\n", "\nclear", "read\n", "run\n",
    "run\n1", "run 1\n", "run 1\n2", "counts\n", "\ncounts", "best\n", "order x y z\n", "order x y\nz",
    "order\nx y z", "laid 1\n", "laid\n1", "turn x y\n", "turn x\ny", "clear\nread", "row block x\nrow stop",
)
# Asked of two desks, one of which refused something: what it holds, and what it does with further rows.
PROBES = (
    "counts", "laid 0", "laid 2", "laid 999", "turn x y", "turn y z", "turn begin check", "turn check loop", "run 3",
    "run", "counts", "laid 2", "order x z y", "laid 0", "order begin check pick loop done", "laid 3", "best", "laid 0",
    "read", "counts", "laid 0", "best", "row block late", "row stop", "read", "run 2", "counts", "best",
)


def states():
    """Desks in several states, each made anew whenever it is called for."""
    return {
        "new": lambda: Desk(),
        "rows alone": lambda: told_desk("row block x", "row say 5"),
        "faulty rows alone": lambda: told_desk("row block x", "row what"),
        "linked": lambda: reading_desk(LINKED),
        "linked and run": lambda: reading_desk(LINKED, "run", "order x z y", "run"),
        "counting": lambda: reading_desk(COUNTING, "run 3", "order begin done pick check loop"),
        "best": lambda: reading_desk(COUNTING, "run 0", "best", "run 5"),
        "cleared": lambda: reading_desk(COUNTING, "run 3", "clear", "row block x"),
        "faulty behind a read": lambda: reading_desk(LINKED, "run", "row block x"),
    }


class RefusalTest(unittest.TestCase):
    def refuses(self, desk, row, name):
        with self.subTest(row=row[:80]):
            with self.assertRaises(errors.FallError) as caught:
                desk.say(row)
            self.assertIs(type(caught.exception), getattr(errors, name))

    def check(self, make, row, name):
        """Refused, twice alike, and behind it the desk answers as one that was never asked."""
        desk, unasked = make(), make()
        self.refuses(desk, row, name)
        self.refuses(desk, row, name)
        with self.subTest(behind=row[:80]):
            self.assertEqual([answer(desk, probe) for probe in PROBES], [answer(unasked, probe) for probe in PROBES])


class NoFormTest(RefusalTest):
    def test_rows_of_no_form(self):
        for row in OF_NO_FORM:
            self.check(Desk, row, "NoForm")
            self.check(states()["linked and run"], row, "NoForm")

    def test_in_every_state(self):
        for make in states().values():
            for row in ("", "row", "row stop\n", "clear ", "read ", "run " + NUMBERS + " 7", "turn x", "laid 1000"):
                self.check(make, row, "NoForm")

    def test_forms_at_their_edges_are_forms(self):
        desk = reading_desk(LINKED)
        for row in ("row ", "row  ", "run", "run 0", "run 999", "run " + NUMBERS, "laid 0", "laid 999", "order x y z"):
            self.assertIsInstance(desk.say(row), str)
        # Names of eight letters, and as many of them as may be, have a form.
        self.refuses(desk, "order abcdefgh", "NoBlock")
        self.refuses(desk, "turn abcdefgh x", "NoBlock")
        self.refuses(desk, "order " + " ".join(["x"] * 500), "NoOrder")
        self.refuses(desk, "order row", "NoBlock")
        self.refuses(desk, "turn clear read", "NoBlock")

    def test_it_is_due_ahead_of_all_others(self):
        # Without a program, with names of no block, with no order and with no way.
        for make in (Desk, lambda: reading_desk(LINKED)):
            for row in ("order q Q", "order q  q", "turn q Q", "turn z x x", "laid 1 ", "best now", "run q"):
                self.refuses(make(), row, "NoForm")
        self.refuses(told_desk("row what"), "read ", "NoForm")


class ReadTest(RefusalTest):
    faulty = (
        ("TooLong", ["block x"] + ["say 1"] * 119 + ["stop"]),
        ("NoRow", ["block x", "what", "stop"]),
        ("NoRow", ["block x", "say 1 ", "stop"]),
        ("NoRow", ["block x", "", "stop"]),
        ("NoRow", [""]),
        ("NoRow", []),
        ("NoPlace", ["stop"]),
        ("NoPlace", ["block x", "stop", "box a 0"]),
        ("Twice", ["block x", "stop", "block x", "stop"]),
        ("Full", ["box a 0", "box b 0", "box c 0", "box d 0", "box e 0"]),
        ("NoBox", ["block x", "say a", "stop"]),
        ("Open", ["block x"]),
        ("NoBlock", ["block x", "go y"]),
    )

    def rows(self, rows):
        return ["row " + row for row in rows]

    def test_what_read_refuses(self):
        for name, rows in self.faulty:
            self.check(lambda: told_desk(*self.rows(rows)), "read", name)

    def test_the_program_that_was_there_stays(self):
        for name, rows in self.faulty:
            desk = reading_desk(COUNTING, "run 0", "best", "clear", *self.rows(rows))
            for turn in range(2):
                self.refuses(desk, "read", name)
                self.assertEqual(desk.say("counts"), "1 0 0 1 1 0")
                self.assertEqual(desk.say("laid 3"), "8 10 1")
            self.assertEqual(desk.say("run 1"), "1 100 stop")
            self.assertEqual(desk.say("counts"), "2 1 1 2 2 0")
            self.check(
                lambda: reading_desk(COUNTING, "run 0", "best", "run 3", "clear", *self.rows(rows)), "read", name)

    def test_the_rows_stay(self):
        desk = told_desk("row block x", "row go y")
        self.refuses(desk, "read", "NoBlock")
        desk.say("row block y")
        self.refuses(desk, "read", "Open")
        desk.say("row stop")
        self.assertEqual(desk.say("read"), "blocks 2")
        desk.say("row what")
        self.refuses(desk, "read", "NoRow")
        desk.say("clear")
        desk.say("row block x")
        desk.say("row stop")
        self.assertEqual(desk.say("read"), "blocks 1")

    def test_it_is_due_ahead_of_none_yet(self):
        self.refuses(Desk(), "read", "NoRow")
        self.refuses(told_desk("row block x"), "read", "Open")


class NoneYetTest(RefusalTest):
    rows = ("run", "run 1 2", "counts", "best", "order x y", "order x", "laid 0", "laid 999", "turn x y")

    def test_each_kind_of_row(self):
        for row in self.rows:
            for state in ("new", "rows alone", "faulty rows alone"):
                self.check(states()[state], row, "NoneYet")

    def test_rows_told_are_not_yet_a_program(self):
        for row in self.rows:
            self.refuses(told_desk(*rows_of(LINKED)[:-1]), row, "NoneYet")

    def test_a_refused_read_makes_no_program(self):
        for row in self.rows:
            desk = told_desk("row block x", "row go y")
            self.refuses(desk, "read", "NoBlock")
            self.refuses(desk, row, "NoneYet")
            desk.say("clear")
            self.refuses(desk, row, "NoneYet")

    def test_clear_leaves_the_program(self):
        desk = reading_desk(LINKED, "clear")
        self.assertEqual(desk.say("counts"), "0 0 0 0")

    def test_it_is_due_ahead_of_names(self):
        # Whether names are blocks, an order or have a way between them is not asked without a program.
        for row in ("order q", "order y x", "order x x", "turn q r", "turn z x"):
            self.refuses(Desk(), row, "NoneYet")
            self.refuses(told_desk(*rows_of(LINKED)[:-1]), row, "NoneYet")


class NoBlockTest(RefusalTest):
    rows = (
        "order q", "order x y q", "order q y z", "order x q z", "order x y z q", "order x y zz", "turn q x", "turn x q",
        "turn q q", "turn xx y", "turn x yy", "order abcdefgh x y z",
    )

    def test_names_of_no_block(self):
        for row in self.rows:
            for state in ("linked", "linked and run", "faulty behind a read"):
                self.check(states()[state], row, "NoBlock")

    def test_it_is_due_ahead_of_no_order(self):
        # The unknown name stands last, behind what would be no order: one twice, the first not first, too many.
        for row in ("order y x q", "order x x q", "order z q", "order y q y", "order x y z x q", "order z z z z q"):
            self.refuses(reading_desk(LINKED), row, "NoBlock")

    def test_it_is_due_ahead_of_no_way(self):
        for row in ("turn z q", "turn q z", "turn x q"):
            self.refuses(reading_desk(LINKED), row, "NoBlock")

    def test_boxes_are_no_blocks(self):
        desk = reading_desk(COUNTING)
        self.refuses(desk, "turn a begin", "NoBlock")
        self.refuses(desk, "order begin loop check pick a", "NoBlock")

    def test_blocks_of_another_program_are_none(self):
        desk = reading_desk(COUNTING, "clear", *rows_of(LINKED))
        self.refuses(desk, "turn begin check", "NoBlock")
        # Rows that have not been read yet make no blocks.
        desk = reading_desk(LINKED, "row block w", "row stop")
        self.refuses(desk, "order x y z w", "NoBlock")
        desk.say("read")
        self.assertEqual(desk.say("order x y z w"), "cost 0")


class NoOrderTest(RefusalTest):
    rows = (
        # One lacking, one twice, the first one not first, and several of these.
        "order x", "order x y", "order x z", "order y", "order y z", "order x y y", "order x z z", "order x x y",
        "order x x x", "order x y z z", "order x y z x", "order x x y z", "order x y z y", "order y x z",
        "order y z x", "order z y x", "order z x y", "order y y y", "order x y z x y z",
    )

    def test_names_that_are_no_order(self):
        for row in self.rows:
            for state in ("linked", "linked and run", "faulty behind a read"):
                self.check(states()[state], row, "NoOrder")

    def test_orders_are_told(self):
        for row in ("order x y z", "order x z y"):
            self.assertEqual(reading_desk(LINKED).say(row), "cost 0")

    def test_the_order_that_was_there_stays(self):
        desk = reading_desk(COUNTING, "order begin check pick loop done")
        self.refuses(desk, "order begin loop check pick", "NoOrder")
        self.refuses(desk, "order loop begin check pick done", "NoOrder")
        self.assertEqual(desk.say("laid 3"), "8 10 1")

    def test_one_block(self):
        desk = reading_desk("block x\nstop")
        self.refuses(desk, "order x x", "NoOrder")
        self.assertEqual(desk.say("order x"), "cost 0")


class NoWayTest(RefusalTest):
    def test_no_way(self):
        for row in ("turn x z", "turn x x", "turn y y", "turn z x", "turn z y", "turn z z"):
            for state in ("linked", "linked and run", "faulty behind a read"):
                self.check(states()[state], row, "NoWay")

    def test_there_is_a_way(self):
        desk = reading_desk(LINKED)
        self.assertEqual(desk.say("turn x y"), "0")
        self.assertEqual(desk.say("turn y x"), "never")
        self.assertEqual(desk.say("turn y z"), "never")

    def test_ways_lead_one_way(self):
        desk = reading_desk(COUNTING, "run 3")
        self.assertEqual(desk.say("turn begin check"), "1")
        self.refuses(desk, "turn check begin", "NoWay")
        self.refuses(desk, "turn begin loop", "NoWay")
        self.refuses(desk, "turn done begin", "NoWay")


if __name__ == "__main__":
    unittest.main()
