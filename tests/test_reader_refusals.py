"""The refusals of a text that is no program, and their order: point 7."""

import unittest

from blockfall.errors import (
    FallError, Full, NoBlock, NoBox, NoForm, NoneYet, NoOrder, NoPlace, NoRow, NoWay, Open, TooLong, Twice,
)
from blockfall.reader import read

REFUSALS = (TooLong, NoRow, NoPlace, Twice, Full, NoBox, Open, NoBlock, NoForm, NoneYet, NoOrder, NoWay)
TAKEN = ("box", "block", "put", "say", "ask", "go", "if", "else", "table", "stop")
NO_NAMES = TAKEN + ("", "abcdefghi", "A", "aB", "a1", "1", "a-b", "(a)", "a_")
NO_EXPRESSIONS = TAKEN + ("", "abcdefghi", "A", "a1", "01", "1000", "-a", "a+", "a++b", "(a", "a)", "()", "a<b", "a=b")
FOUR_BOXES = ["box a 1", "box b 2", "box c 3", "box d 4"]
TEN_BLOCKS = [row for name in "abcdefghij" for row in (f"block {name}", "stop")]


class RefusalTest(unittest.TestCase):
    def refused(self, refusal, *rows):
        text = "\n".join(rows)
        with self.subTest(text[:300]):
            with self.assertRaises(FallError) as caught:
                read(text)
            raised = [kind for kind in REFUSALS if isinstance(caught.exception, kind)]
            self.assertEqual(raised, [refusal])

    def accepted(self, *rows):
        boxes, blocks = read("\n".join(rows))
        self.assertGreater(len(blocks), 0)

    def faulty_row(self, row):
        """A row is refused where it stands in a block, and where it's the text."""
        self.refused(NoRow, "box a 1", "box b 1", "block x", row, "stop")
        self.refused(NoRow, row)


class TooLongTest(RefusalTest):
    def test_121_rows(self):
        self.refused(TooLong, *(["say 1"] * 121))
        self.refused(TooLong, *(["block x"] + ["say 1"] * 119 + ["stop"]))

    def test_120_rows_are_not_too_long(self):
        self.refused(NoPlace, *(["say 1"] * 120))
        self.refused(Full, *(["block x"] + ["say 1"] * 118 + ["stop"]))

    def test_too_long_is_due_ahead_of_faulty_rows(self):
        for row in ("", " ", "what", "say", "box a 1", "block x", "stop", "go nowhere", "say zzz"):
            self.refused(TooLong, *([row] * 121))
        self.refused(TooLong, "what is this", *(["say 1"] * 120))
        self.refused(TooLong, *(["block x"] + ["say 1"] * 119 + [""]))

    def test_120_faulty_rows_are_refused_by_the_first(self):
        self.refused(NoRow, *([""] * 120))
        self.refused(NoRow, *(["what"] * 120))
        self.refused(Twice, *(["box a 1"] * 120))
        self.refused(NoPlace, *(["block x"] * 120))

    def test_rows_without_signs_count(self):
        self.refused(TooLong, "\n" * 120)
        self.refused(NoRow, "\n" * 119)
        self.refused(TooLong, *(["block x"] + ["stop"] * 118), "", "")
        self.refused(NoPlace, *(["block x"] + ["stop"] * 118), "")

    def test_far_more_rows(self):
        self.refused(TooLong, "\n" * 100000)


class NoRowTest(RefusalTest):
    def test_a_text_without_signs(self):
        self.refused(NoRow, "")

    def test_rows_without_signs(self):
        self.refused(NoRow, "", "block x", "stop")
        self.refused(NoRow, "box a 1", "", "block x", "stop")
        self.refused(NoRow, "block x", "", "stop")
        self.refused(NoRow, "block x", "stop", "")
        self.refused(NoRow, "block x", "stop", "", "block y", "stop")
        self.refused(NoRow, "", "")

    def test_blanks_ahead_behind_and_twice(self):
        rows = ("put a b", "say a", "ask a", "go x", "if a < b x else x", "table a x x", "stop", "block y", "box c 1")
        for row in rows:
            self.faulty_row(" " + row)
            self.faulty_row(row + " ")
            for place, sign in enumerate(row):
                if sign == " ":
                    self.faulty_row(row[:place] + " " + row[place:])
        for row in (" ", "  ", " " * 1000):
            self.faulty_row(row)

    def test_other_counts_of_words(self):
        rows = (
            "box", "box a", "box c 1 1", "block", "block y y", "put", "put a", "put a b b", "say", "say a a", "ask",
            "ask a b", "go", "go x x", "if", "if a < b", "if a < b x", "if a < b x else", "if a < b x x",
            "if a < b x else x x", "if a < b x else x else x", "if a < x else x", "table", "table a", "stop x",
            "stop stop", "table a x x x x x x x", "table a x x x x x x x x",
        )
        for row in rows:
            self.faulty_row(row)

    def test_each_word_ahead_of_each_rest(self):
        heads_of = {
            "": ("stop",), " a": ("block", "say", "ask", "go"), " 1": ("say",), " a 1": ("box", "put"),
            " a b": ("put", "table"), " 1 b": ("table",), " a < b x else x": ("if",), " a = 1 x else x": ("if",),
            " a x x x": ("table",), " a x x x x x": ("table",), " 1 x x x x x x": ("table",),
        }
        for rest, heads in heads_of.items():
            for head in TAKEN + ("", "a", "zzz"):
                if head not in heads:
                    self.faulty_row(head + rest)

    def test_other_words_ahead(self):
        for row in ("a", "jump x", "STOP", "Say a", "stopp", "sto", "else", "else x", "x", "0", "+", "tables a x",
                    "boxes a 1", "when a < b x", "x: stop", "#", "~"):
            self.faulty_row(row)

    def test_faulty_names(self):
        for word in NO_NAMES:
            for row in (f"box {word} 1", f"block {word}", f"put {word} a", f"ask {word}", f"go {word}",
                        f"if a < b {word} else x", f"if a < b x else {word}", f"if a = b {word} else {word}",
                        f"table a {word}", f"table a {word} x", f"table a x {word}", f"table a x x {word} x x x"):
                self.faulty_row(row)

    def test_faulty_firsts(self):
        for word in ("", "00", "01", "007", "1000", "-1", "+1", "a", "1a", "1+1", "(1)", "1.0", "9" * 5000):
            self.refused(NoRow, f"box a {word}", "block x", "stop")

    def test_faulty_expressions(self):
        for word in NO_EXPRESSIONS:
            for row in (f"put a {word}", f"say {word}", f"if {word} < a x else x", f"if a < {word} x else x",
                        f"if {word} = a x else x", f"if a = {word} x else x", f"table {word} x"):
                self.faulty_row(row)

    def test_expressions_too_long_and_too_deep(self):
        for word in ("+".join(["a"] * 31), "((((((a))))))", "a" * 100000, "9" * 100000, "(" * 100000):
            for row in (f"put a {word}", f"say {word}", f"if {word} < a x else x", f"if a = {word} x else x",
                        f"table {word} x"):
                self.faulty_row(row)

    def test_very_long_names(self):
        word = "a" * 100000
        for row in (word, f"box {word} 1", f"block {word}", f"ask {word}", f"go {word}", f"table a {word}"):
            self.faulty_row(row)
        self.faulty_row("table a" + " x" * 100000)

    def test_faulty_signs_of_an_if(self):
        for sign in (">", "<=", "==", "<>", "", "+", "a", "else", "=<", "<<", "is"):
            self.faulty_row(f"if a {sign} b x else x")
        for word in ("Else", "x", "", "or", "elsee", "if", "a"):
            self.faulty_row(f"if a < b x {word} x")
        self.faulty_row("if < a b x else x")
        self.faulty_row("if a<b x else x")


class NoPlaceTest(RefusalTest):
    def test_a_box_behind_a_block(self):
        self.refused(NoPlace, "block x", "box a 1", "stop")
        self.refused(NoPlace, "block x", "stop", "box a 1")
        self.refused(NoPlace, "box a 1", "block x", "stop", "box b 1", "block y", "stop")

    def test_a_statement_where_no_block_is_open(self):
        for row in ("put a 1", "say 1", "say a", "ask a"):
            self.refused(NoPlace, row)
            self.refused(NoPlace, "box a 1", row, "block x", "stop")
            self.refused(NoPlace, "box a 1", "block x", "stop", row)
            self.refused(NoPlace, "box a 1", "block x", "stop", row, "block y", "stop")

    def test_an_end_where_no_block_is_open(self):
        for row in ("go x", "if a < 1 x else x", "if 1 = a x else x", "table a x", "stop"):
            self.refused(NoPlace, row)
            self.refused(NoPlace, "box a 1", row, "block x", "stop")
            self.refused(NoPlace, "box a 1", "block x", "stop", row)

    def test_each_end_ends_its_block(self):
        for row in ("go x", "if a < 1 x else x", "if 1 = a x else x", "table a x", "stop"):
            self.refused(NoPlace, "box a 1", "block x", row, "say 1", "stop")
            self.accepted("box a 1", "block x", row, "block y", "stop")

    def test_a_block_while_one_is_open(self):
        self.refused(NoPlace, "block x", "block y", "stop")
        self.refused(NoPlace, "block x", "say 1", "block y", "stop")
        self.refused(NoPlace, "block x", "stop", "block y", "block z", "stop")


class TwiceTest(RefusalTest):
    def test_two_boxes_of_one_name(self):
        self.refused(Twice, "box a 1", "box a 1", "block x", "stop")
        self.refused(Twice, "box a 1", "box b 1", "box a 2", "block x", "stop")

    def test_two_blocks_of_one_name(self):
        self.refused(Twice, "block x", "stop", "block x", "stop")
        self.refused(Twice, "block x", "stop", "block y", "stop", "block x", "stop")

    def test_a_box_and_a_block_of_one_name(self):
        self.accepted("box x 1", "block x", "stop")


class FullTest(RefusalTest):
    def test_a_fifth_box(self):
        self.accepted(*FOUR_BOXES, "block x", "stop")
        self.refused(Full, *FOUR_BOXES, "box e 5", "block x", "stop")

    def test_an_eleventh_block(self):
        self.accepted(*TEN_BLOCKS)
        self.refused(Full, *TEN_BLOCKS, "block k", "stop")

    def test_a_ninth_statement(self):
        for row in ("put a 1", "say 1", "ask a"):
            self.accepted("box a 1", "block x", *(["say 1"] * 7), row, "stop")
            self.refused(Full, "box a 1", "block x", *(["say 1"] * 8), row, "stop")
            self.refused(Full, "box a 1", "block x", *([row] * 9), "stop")
            self.refused(Full, "box a 1", "block x", "stop", "block y", *([row] * 9), "stop")

    def test_an_end_behind_eight_statements_is_no_ninth(self):
        for row in ("go x", "if 1 < 1 x else x", "table 1 x", "stop"):
            self.accepted("block x", *(["say 1"] * 8), row)


class NoBoxTest(RefusalTest):
    def test_a_name_that_is_no_boxs(self):
        rows = ("put b a", "put a b", "put b b", "say b", "say a+b", "say b+a", "say 1-(2*(b))", "ask b")
        for row in rows:
            self.refused(NoBox, "box a 1", "block x", row, "stop")
        for row in ("if b < a x else x", "if a < b x else x", "if a = a*b x else x", "table b x", "table a-b x"):
            self.refused(NoBox, "box a 1", "block x", row)

    def test_without_boxes(self):
        for row in ("put a 1", "say a", "ask a"):
            self.refused(NoBox, "block x", row, "stop")
        for row in ("if a < 1 x else x", "if 1 = a x else x", "table a x"):
            self.refused(NoBox, "block x", row)

    def test_a_block_is_no_box(self):
        self.refused(NoBox, "box a 1", "block x", "say x", "stop")
        self.refused(NoBox, "box a 1", "block x", "ask x", "stop")

    def test_a_name_that_only_begins_like_a_boxs(self):
        self.refused(NoBox, "box ab 1", "block x", "say a", "stop")
        self.refused(NoBox, "box a 1", "block x", "say ab", "stop")


class OpenTest(RefusalTest):
    def test_the_last_block_is_open(self):
        self.refused(Open, "block x")
        self.refused(Open, "block x", "say 1")
        self.refused(Open, "block x", "stop", "block y")
        self.refused(Open, "box a 1", "block x", "go x", "block y", "ask a")

    def test_there_is_no_block(self):
        self.refused(Open, "box a 1")
        self.refused(Open, *FOUR_BOXES)


class NoBlockTest(RefusalTest):
    def test_an_end_names_a_block_that_there_is_not(self):
        for row in ("go y", "if 1 < 2 y else x", "if 1 < 2 x else y", "if 1 = 2 y else y", "table 1 y",
                    "table 1 x y", "table 1 y x", "table 1 x x x x x y"):
            self.refused(NoBlock, "block x", row)
            self.refused(NoBlock, "block x", row, "block z", "stop")
            self.refused(NoBlock, "block z", "stop", "block x", row)
            self.accepted("block x", row, "block y", "stop")

    def test_a_box_is_no_block(self):
        self.refused(NoBlock, "box y 1", "block x", "go y")


class OrderInOneRowTest(RefusalTest):
    def test_no_row_is_due_ahead_of_all_else(self):
        self.refused(NoRow, "block x", "box A 1", "stop")
        self.refused(NoRow, "say a+")
        self.refused(NoRow, "go 1")
        self.refused(NoRow, "block x", "block stop")
        self.refused(NoRow, "box a 1", "box a 01")
        self.refused(NoRow, *FOUR_BOXES, "box e 1000")
        self.refused(NoRow, *TEN_BLOCKS, "block K")
        self.refused(NoRow, "block x", *(["say 1"] * 8), "say 01")
        self.refused(NoRow, "block x", "put b a+")
        self.refused(NoRow, "block x", "say b+01")
        self.refused(NoRow, "block x", "if b < 1 y else Z")
        self.refused(NoRow, "block x", "table b Z")

    def test_no_place_is_due_ahead_of_twice(self):
        self.refused(NoPlace, "box a 1", "block x", "box a 1")
        self.refused(NoPlace, "block x", "block x", "stop")

    def test_no_place_is_due_ahead_of_full(self):
        self.refused(NoPlace, *FOUR_BOXES, "block x", "box e 1")
        self.refused(NoPlace, *TEN_BLOCKS[:-1], "block k")
        self.refused(NoPlace, "block x", *(["say 1"] * 8), "stop", "say 1")

    def test_no_place_is_due_ahead_of_no_box(self):
        for row in ("put b 1", "say b", "ask b", "if b < 1 x else x", "table b x"):
            self.refused(NoPlace, row)
            self.refused(NoPlace, "block x", "stop", row)

    def test_twice_is_due_ahead_of_full(self):
        self.refused(Twice, *FOUR_BOXES, "box d 1")
        self.refused(Twice, *FOUR_BOXES, "box a 1")
        self.refused(Twice, *TEN_BLOCKS, "block a")
        self.refused(Twice, *TEN_BLOCKS, "block j")

    def test_full_is_due_ahead_of_no_box(self):
        for row in ("put b 1", "put b b", "say b", "ask b"):
            self.refused(Full, "block x", *(["say 1"] * 8), row, "stop")


class OrderInOneTextTest(RefusalTest):
    def test_the_first_faulty_row_is_told(self):
        faulty = (
            (NoPlace, "box z 1"), (NoRow, "what"), (NoBox, "say b"), (NoPlace, "block y"),
        )
        for first, row in faulty:
            for second, other in faulty:
                self.refused(first, "block x", row, other, "stop")

    def test_a_faulty_row_further_on_is_not_told(self):
        self.refused(NoBox, "block x", "say b", "what")
        self.refused(Twice, "box a 1", "box a 1", "", "say")
        self.refused(NoPlace, "say 1", "", "")
        self.refused(Full, *FOUR_BOXES, "box e 1", "box A 1")
        self.refused(Full, "block x", *(["say 1"] * 9), "what")

    def test_a_faulty_row_is_due_ahead_of_open(self):
        self.refused(NoRow, "block x", "say 1", "")
        self.refused(NoBox, "block x", "say b")
        self.refused(Twice, "box a 1", "box a 1")

    def test_a_faulty_row_is_due_ahead_of_no_block(self):
        self.refused(NoRow, "block x", "go y", "")
        self.refused(NoBox, "block x", "go z", "block y", "say b", "stop")
        self.refused(Twice, "block x", "go y", "block x", "stop")
        self.refused(NoPlace, "block x", "go y", "stop")
        self.refused(NoBox, "block x", "if b < 1 y else z")
        self.refused(NoBox, "block x", "table b y")

    def test_open_is_due_ahead_of_no_block(self):
        self.refused(Open, "block x", "go y", "block z")
        self.refused(Open, "block x", "table 1 x y", "block z", "say 1")

    def test_a_text_that_ends_in_a_line_feed_has_a_row_more(self):
        self.refused(NoRow, "block x", "stop", "")
        self.refused(NoRow, "block x", "")


if __name__ == "__main__":
    unittest.main()
