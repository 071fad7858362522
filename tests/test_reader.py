"""A program's text and the tuple told of it: points 5 and 6."""

import unittest

from blockfall.reader import read
from blockfall.words import expression
from helping import lists_in, text_of


class ReaderTest(unittest.TestCase):
    def check(self, text, told):
        got = read(text)
        self.assertEqual(got, told)
        self.check_kinds(got)

    def check_kinds(self, program):
        self.assertIs(type(program), tuple)
        boxes, blocks = program
        self.assertIs(type(boxes), list)
        for box in boxes:
            self.assertIs(type(box), tuple)
            self.assertEqual([type(part) for part in box], [str, int])
        self.assertIs(type(blocks), list)
        for block in blocks:
            self.assertIs(type(block), tuple)
            self.assertEqual([type(part) for part in block], [str, list, tuple])
            for statement in block[1]:
                self.assertIs(type(statement), tuple)
            if block[2][0] == "table":
                self.assertIs(type(block[2][2]), tuple)

    def test_the_least_program(self):
        self.check("block a\nstop", ([], [("a", [], ("stop",))]))

    def test_a_whole_program(self):
        text = text_of(
            "box n 3",
            "box sum 0",
            "block begin",
            "ask n",
            "put sum sum+2*n",
            "say sum",
            "if n < 10 begin else pick",
            "block pick",
            "table n-1 begin pick done",
            "block done",
            "say 7",
            "stop",
        )
        n = ("box", "n")
        total = ("box", "sum")
        self.check(text, (
            [("n", 3), ("sum", 0)],
            [
                (
                    "begin",
                    [
                        ("ask", "n"),
                        ("put", "sum", ("+", total, ("*", ("number", 2), n))),
                        ("say", total),
                    ],
                    ("if", "<", n, ("number", 10), 0, 1),
                ),
                ("pick", [], ("table", ("-", n, ("number", 1)), (0, 1, 2))),
                ("done", [("say", ("number", 7))], ("stop",)),
            ],
        ))

    def test_none_to_four_boxes(self):
        boxes = [("a", 0), ("b", 9), ("abcdefgh", 10), ("d", 999)]
        for many in range(5):
            with self.subTest(many):
                rows = [f"box {name} {first}" for name, first in boxes[:many]]
                self.check(text_of(*rows, "block x", "stop"), (boxes[:many], [("x", [], ("stop",))]))

    def test_one_to_ten_blocks(self):
        for many in range(1, 11):
            with self.subTest(many):
                names = ["abcdefghij"[place] for place in range(many)]
                rows = [row for name in names for row in (f"block {name}", "stop")]
                self.check(text_of(*rows), ([], [(name, [], ("stop",)) for name in names]))

    def test_none_to_eight_statements(self):
        for many in range(9):
            with self.subTest(many):
                rows = [f"say {n}" for n in range(many)]
                told = [("say", ("number", n)) for n in range(many)]
                self.check(text_of("block a", *rows, "stop"), ([], [("a", told, ("stop",))]))

    def test_each_block_has_room_for_eight_statements(self):
        rows = []
        for name in ("a", "b", "c"):
            rows += [f"block {name}"] + ["say 1"] * 8 + ["stop"]
        said = [("say", ("number", 1))] * 8
        self.check(text_of(*rows), ([], [(name, said, ("stop",)) for name in ("a", "b", "c")]))

    def test_the_greatest_program(self):
        rows = [f"box {name} 1" for name in "wxyz"]
        for name in "abcdefghij":
            rows += [f"block {name}"] + ["put w x", "ask y", "say z", "say 0"] * 2 + ["go j"]
        boxes, blocks = read(text_of(*rows))
        self.assertEqual(len(rows), 104)
        self.assertEqual(len(boxes), 4)
        self.assertEqual([name for name, statements, end in blocks], list("abcdefghij"))
        for name, statements, end in blocks:
            self.assertEqual(statements, [
                ("put", "w", ("box", "x")), ("ask", "y"), ("say", ("box", "z")), ("say", ("number", 0))] * 2)
            self.assertEqual(end, ("go", 9))

    def test_each_kind_of_statement(self):
        text = text_of("box a 1", "box b 2", "block x", "put a b*2", "put b 5", "say a-b", "ask b", "ask a", "stop")
        self.check(text, ([("a", 1), ("b", 2)], [("x", [
            ("put", "a", ("*", ("box", "b"), ("number", 2))),
            ("put", "b", ("number", 5)),
            ("say", ("-", ("box", "a"), ("box", "b"))),
            ("ask", "b"),
            ("ask", "a"),
        ], ("stop",))]))

    def end_of(self, row):
        text = text_of("box a 1", "box b 2", "block x", row, "block y", "stop", "block z", "stop")
        boxes, blocks = read(text)
        return blocks[0][2]

    def test_go(self):
        self.assertEqual(self.end_of("go x"), ("go", 0))
        self.assertEqual(self.end_of("go y"), ("go", 1))
        self.assertEqual(self.end_of("go z"), ("go", 2))

    def test_if(self):
        a, b, two = ("box", "a"), ("box", "b"), ("number", 2)
        self.assertEqual(self.end_of("if a < b y else z"), ("if", "<", a, b, 1, 2))
        self.assertEqual(self.end_of("if a = b z else y"), ("if", "=", a, b, 2, 1))
        self.assertEqual(self.end_of("if b*2 = a x else x"), ("if", "=", ("*", b, two), a, 0, 0))
        self.assertEqual(self.end_of("if 2 < (a-b) y else y"), ("if", "<", two, ("-", a, b), 1, 1))

    def test_tables_of_one_to_six_blocks(self):
        names = ["z", "x", "y", "z", "z", "x"]
        places = (2, 0, 1, 2, 2, 0)
        for many in range(1, 7):
            with self.subTest(many):
                row = "table a+1 " + " ".join(names[:many])
                told = ("table", ("+", ("box", "a"), ("number", 1)), places[:many])
                self.assertEqual(self.end_of(row), told)

    def test_stop(self):
        self.assertEqual(self.end_of("stop"), ("stop",))

    def test_blocks_may_be_named_ahead_of_where_they_stand(self):
        text = text_of("block a", "go c", "block b", "if 1 = 1 d else a", "block c", "table 0 d b", "block d", "stop")
        self.check(text, ([], [
            ("a", [], ("go", 2)),
            ("b", [], ("if", "=", ("number", 1), ("number", 1), 3, 0)),
            ("c", [], ("table", ("number", 0), (3, 1))),
            ("d", [], ("stop",)),
        ]))

    def test_boxes_and_blocks_may_share_names(self):
        text = text_of("box a 5", "box b 6", "block b", "put a b", "go a", "block a", "say a", "go b")
        self.check(text, ([("a", 5), ("b", 6)], [
            ("b", [("put", "a", ("box", "b"))], ("go", 1)),
            ("a", [("say", ("box", "a"))], ("go", 0)),
        ]))

    def test_a_box_may_be_told_none_of_the_rows(self):
        self.check(text_of("box a 5", "block x", "go x"), ([("a", 5)], [("x", [], ("go", 0))]))

    def test_expressions_in_rows_are_those_of_words(self):
        longest = "+".join(["a"] * 29) + "*10"
        deepest = "(((((a-1)))))"
        self.assertEqual(len(longest), 60)
        text = text_of("box a 1", "block x", f"say {longest}", f"put a {deepest}",
                       f"if {longest} < {deepest} x else x")
        boxes, blocks = read(text)
        self.assertEqual(blocks, [("x", [("say", expression(longest)), ("put", "a", expression(deepest))],
                                   ("if", "<", expression(longest), expression(deepest), 0, 0))])

    def test_every_list_is_new_and_the_askers_own(self):
        text = text_of("box a 1", "block x", "say a", "go y", "block y", "go z", "block z", "stop")
        one, other = read(text), read(text)
        self.assertEqual(one, other)
        lists = lists_in(one) + lists_in(other)
        self.assertEqual(len(lists), 10)
        self.assertEqual(len({id(found) for found in lists}), 10)

    def test_what_the_asker_changes_is_not_told_again(self):
        text = text_of("box a 1", "block x", "say a", "go y", "block y", "stop")
        told = ([("a", 1)], [("x", [("say", ("box", "a"))], ("go", 1)), ("y", [], ("stop",))])
        first = read(text)
        for found in lists_in(first):
            found.append("changed")
        self.assertEqual(read(text), told)

    def test_what_was_refused_leaves_nothing_behind(self):
        for faulty in ("box a 1\nblock x\nsay a", "box a 1\nbox a 1", "block x\nsay 1\nsay b"):
            with self.assertRaises(ValueError):
                read(faulty)
            self.check("block x\nstop", ([], [("x", [], ("stop",))]))


if __name__ == "__main__":
    unittest.main()
