"""Lengths of rows: point 14, and points 2 and 3 as far as they speak of them."""

import copy
import itertools
import unittest

from blockfall.laying import laid
from blockfall.lengths import lengths, right_lengths
from blockfall.reader import read
from helping import FIGURE_LIMIT, Maker, kinds_of, lists_in, orders_of, text_of

ONE, TWO = ("number", 1), ("number", 2)
SAY, PUT, ASK, STOP = ("say", ONE), ("put", "a", ONE), ("ask", "a"), ("stop",)
STATEMENTS = (SAY, PUT, ASK)


def jump(to):
    return ("jump", to)


def when(to):
    return ("when", "<", ONE, TWO, to)


def unless(to):
    return ("unless", "=", ONE, TWO, to)


def table(*tos):
    return ("table", ONE, tos)


def can_be_long(row):
    return row[0] in ("jump", "when", "unless")


def listed_right(rows, reach, told):
    """Whether all short ones may be so: what lies between, a jump back's own row too, is summed row by row."""
    for place, row in enumerate(rows):
        if can_be_long(row) and told[place] == 1:
            between = told[place + 1:row[-1]] if row[-1] > place else told[row[-1]:place + 1]
            if sum(between) > reach:
                return False
    return True


def choices(rows):
    """All choices of lengths of the rows."""
    return [list(told) for told in itertools.product(*[(1, 3) if can_be_long(row) else (1,) for row in rows])]


def some_rows(seed, turns):
    """Laid rows of programs made by a seed, with at most 7 that may be long, so that all choices can be listed."""
    maker = Maker(seed)
    made = 0
    while made < turns:
        program = read(maker.text(maker.chance.randrange(1, 8)))
        rows = laid(program, maker.order(len(program[1])))
        if sum([can_be_long(row) for row in rows]) <= 7:
            made += 1
            yield rows


class LengthsTest(unittest.TestCase):
    def check(self, rows, reach, told):
        with self.subTest(rows=rows, reach=reach):
            got = lengths(rows, reach)
            self.assertEqual(got, told)
            self.assertEqual(kinds_of(got), kinds_of(told))
            self.assertIs(right_lengths(rows, reach, got), True)

    def edge(self, rows, place, span):
        """The one row that may be long is short from a reach of its span on, and long below."""
        for reach in range(span + 3):
            told = [1] * len(rows)
            if reach < span:
                told[place] = 3
            self.check(rows, reach, told)
        self.check(rows, FIGURE_LIMIT, [1] * len(rows))


class OneJumpTest(LengthsTest):
    def test_rows_that_are_always_short(self):
        for reach in (0, 1, 2, 999, FIGURE_LIMIT):
            self.check([STOP], reach, [1])
            self.check([SAY, PUT, ASK, STOP], reach, [1, 1, 1, 1])
            self.check([], reach, [])

    def test_a_table_is_short_however_far_it_goes(self):
        rows = [table(0, 9, 4, 1)] + [SAY] * 8 + [STOP]
        for reach in (0, 1, 8, 9, 999):
            self.check(rows, reach, [1] * 10)
        self.check([SAY] * 8 + [table(0, 0)], 0, [1] * 9)

    def test_to_the_row_behind(self):
        for to_row in (jump, when, unless):
            self.edge([to_row(1), STOP], 0, 0)
            self.edge([SAY, to_row(2), STOP], 1, 0)

    def test_forwards(self):
        for to_row in (jump, when, unless):
            for between in (1, 2, 3, 7):
                rows = [to_row(between + 1)] + [STATEMENTS[place % 3] for place in range(between)] + [SAY, STOP]
                self.edge(rows, 0, between)
                self.edge([PUT, PUT, to_row(between + 3)] + [SAY] * between + [STOP], 2, between)
            self.edge([to_row(3), STOP, table(0, 1), STOP], 0, 2)

    def test_to_itself(self):
        # From where it ends to where it begins: its own length.
        for to_row in (jump, when, unless):
            self.edge([to_row(0)], 0, 1)
            self.edge([SAY, SAY, to_row(2), STOP], 2, 1)

    def test_back(self):
        for to_row in (jump, when, unless):
            for between in (1, 2, 3, 7):
                rows = [STATEMENTS[place % 3] for place in range(between)] + [to_row(0), STOP]
                self.edge(rows, between, between + 1)
                self.edge([PUT, PUT] + [SAY] * between + [to_row(2)], between + 2, between + 1)

    def test_beyond_the_last(self):
        for to_row in (jump, when, unless):
            self.edge([to_row(1)], 0, 0)
            self.edge([STOP, to_row(2)], 1, 0)
            self.edge([to_row(3), SAY, STOP], 0, 2)
            self.edge([SAY, to_row(7), SAY, SAY, PUT, ASK, STOP], 1, 5)
            self.edge([SAY, to_row(8), SAY, SAY, PUT, ASK, STOP], 1, 5)

    def test_great_reaches(self):
        rows = [when(50)] + [SAY] * 49 + [jump(0)]
        for reach in (50, 51, 53, 999, FIGURE_LIMIT, 10 ** 60):
            self.check(rows, reach, [1] * 51 if reach > 50 else [1] * 50 + [3])


class SeveralJumpsTest(LengthsTest):
    def test_a_long_one_between_makes_another_long(self):
        rows = [jump(2), when(5), SAY, SAY, SAY, STOP]
        self.check(rows, 0, [3, 3, 1, 1, 1, 1])
        self.check(rows, 1, [3, 3, 1, 1, 1, 1])
        self.check(rows, 2, [3, 3, 1, 1, 1, 1])
        self.check(rows, 3, [1, 1, 1, 1, 1, 1])

    def test_a_long_one_between_need_not_make_another_long(self):
        rows = [jump(2), when(6), SAY, SAY, SAY, SAY, STOP]
        self.check(rows, 2, [3, 3, 1, 1, 1, 1, 1])
        self.check(rows, 3, [1, 3, 1, 1, 1, 1, 1])
        self.check(rows, 4, [1, 1, 1, 1, 1, 1, 1])

    def test_a_long_one_elsewhere_changes_nothing(self):
        rows = [jump(2), SAY, jump(7), SAY, SAY, SAY, SAY, STOP, unless(7)]
        self.check(rows, 2, [1, 1, 3, 1, 1, 1, 1, 1, 1])
        self.check(rows, 1, [1, 1, 3, 1, 1, 1, 1, 1, 3])

    def test_the_row_gone_to_is_not_between_forwards_but_is_so_back(self):
        rows = [jump(1), jump(5), SAY, SAY, SAY, STOP]
        self.check(rows, 0, [1, 3, 1, 1, 1, 1])
        rows = [jump(4), when(0), SAY, SAY, STOP]
        self.check(rows, 2, [3, 3, 1, 1, 1])
        self.check(rows, 3, [1, 1, 1, 1, 1])
        rows = [jump(3), when(0), SAY, STOP]
        self.check(rows, 1, [3, 3, 1, 1])
        self.check(rows, 2, [1, 1, 1, 1])

    def test_one_becomes_long_and_all_ahead_of_it_one_by_one(self):
        for many in (2, 5, 40):
            # Each goes over the one behind it, the last one over two statements.
            rows = [unless(place + 2) for place in range(many)] + [jump(many + 3), SAY, SAY, STOP]
            self.check(rows, 0, [3] * (many + 1) + [1, 1, 1])
            self.check(rows, 1, [3] * (many + 1) + [1, 1, 1])
            self.check(rows, 2, [1] * (many + 4))

    def test_one_becomes_long_and_all_behind_it_one_by_one(self):
        for many in (2, 5, 40):
            rows = [SAY, SAY, jump(0)] + [when(place + 2) for place in range(many)]
            self.check(rows, 2, [1, 1, 3] + [3] * many)
            self.check(rows, 3, [1] * (many + 3))

    def test_those_that_hold_one_another_stay_short(self):
        # Both long would be right, too, but both short are so, and shorter.
        rows = [jump(2), jump(0)]
        self.check(rows, 2, [1, 1])
        self.check(rows, 1, [3, 3])
        self.assertEqual([told for told in choices(rows) if listed_right(rows, 2, told)], [[1, 1], [3, 3]])
        rows = [when(4), unless(4), when(0), unless(0)]
        self.check(rows, 3, [3, 3, 3, 3])
        self.check(rows, 4, [1, 1, 1, 1])

    def test_a_long_one_back_is_not_longer_for_its_own_length(self):
        # It reaches 2 where it is short; that it would reach 4 where it is long is no matter.
        self.check([SAY, jump(0), STOP], 2, [1, 1, 1])
        self.check([SAY, jump(0), STOP], 3, [1, 1, 1])
        self.check([SAY, jump(0), STOP], 1, [1, 3, 1])


class ListedTest(LengthsTest):
    def check_listed(self, rows, reach):
        right = [told for told in choices(rows) if listed_right(rows, reach, told)]
        got = lengths(rows, reach)
        self.assertIn(got, right)
        self.assertEqual(got, [min(numbers) for numbers in zip(*right)])
        for told in choices(rows):
            self.assertIs(right_lengths(rows, reach, told), told in right)

    def test_laid_rows_of_programs(self):
        for rows in some_rows(21, 60):
            for reach in list(range(0, len(rows) + 2, 1 + len(rows) // 8)) + [3 * len(rows), FIGURE_LIMIT]:
                self.check_listed(rows, reach)

    def test_all_orders_of_a_program(self):
        text = text_of(
            "box a 0", "block p", "ask a", "if a < 5 t else r", "block q", "go p", "block r", "say a", "put a a-1",
            "if a = 3 q else s", "block s", "table a p t q", "block t", "if a < 9 t else t")
        program = read(text)
        for order in orders_of(5):
            rows = laid(program, order)
            for reach in range(len(rows) + 3):
                self.check_listed(rows, reach)

    def test_rows_of_jumps_alone(self):
        maker = Maker(22)
        for turn in range(150):
            many = 1 + turn % 6
            rows = [maker.chance.choice((jump, when, unless))(maker.chance.randrange(many + 1)) for more in range(many)]
            for reach in range(many + 2):
                self.check_listed(rows, reach)

    def test_rows_of_all_kinds(self):
        maker = Maker(23)
        for turn in range(150):
            many = 1 + turn % 12
            rows = [maker.chance.choice(STATEMENTS + (STOP, table(0, many - 1))) for more in range(many)]
            for place in maker.chance.sample(range(many), min(5, many)):
                rows[place] = maker.chance.choice((jump, when, unless))(maker.chance.randrange(many + 1))
            for reach in (0, 1, 2, 3, 5, 8, many, 3 * many):
                self.check_listed(rows, reach)

    def test_the_longest_programs(self):
        # Too many choices to be listed; what is told is right, and none that is long could be short by itself.
        maker = Maker(24)
        for turn in range(40):
            program = read(maker.text(10, 8))
            rows = laid(program, maker.order(10))
            for reach in (0, 1, 3, 7, 10, 15, 20, 30, 60, 999):
                told = lengths(rows, reach)
                self.assertTrue(listed_right(rows, reach, told))
                for place in range(len(rows)):
                    if told[place] == 3:
                        shorter = told[:place] + [1] + told[place + 1:]
                        self.assertFalse(listed_right(rows, reach, shorter))
            self.assertEqual(lengths(rows, 3 * len(rows)), [1] * len(rows))


class RightLengthsTest(unittest.TestCase):
    def setUp(self):
        # Spans of short ones: 1, 3, 0, 5.
        self.rows = [jump(2), SAY, when(0), unless(4), table(0, 5), jump(1), STOP]
        self.told = [1, 1, 3, 1, 1, 3, 1]

    def right(self, told, reach=2):
        with self.subTest(told=told, reach=reach):
            self.assertIs(right_lengths(self.rows, reach, told), True)

    def wrong(self, told, reach=2):
        with self.subTest(told=told, reach=reach):
            self.assertIs(right_lengths(self.rows, reach, told), False)

    def changed(self, place, number):
        return self.told[:place] + [number] + self.told[place + 1:]

    def test_the_told_ones(self):
        self.assertEqual(lengths(self.rows, 2), self.told)
        self.right(self.told)

    def test_too_short_and_too_long_lists(self):
        self.wrong([])
        for many in range(7):
            self.wrong(self.told[:many])
            self.wrong([1] * many, 999)
        self.wrong(self.told[1:])
        for number in (1, 3, 0, -1):
            self.wrong(self.told + [number])
            self.wrong([number] + self.told)
            self.wrong([1] * 7 + [number], 999)
        self.wrong(self.told + self.told)
        self.right([1] * 7, 999)

    def test_no_rows(self):
        self.assertIs(right_lengths([], 0, []), True)
        self.assertIs(right_lengths([], 0, [1]), False)
        self.assertIs(right_lengths([STOP], 0, []), False)

    def test_a_statement_a_table_and_a_stop_of_another_length(self):
        for row in STATEMENTS + (table(0, 0), STOP):
            self.assertIs(right_lengths([row], 9, [1]), True)
            for number in (3, 2, 0, -1, 4, 10 ** 30):
                self.assertIs(right_lengths([row], 9, [number]), False)
        for place in (1, 4, 6):
            for number in (3, 2, 0, -1, -3, 4, FIGURE_LIMIT, -FIGURE_LIMIT):
                self.wrong(self.changed(place, number))
                self.wrong(self.changed(place, number), FIGURE_LIMIT)

    def test_a_jump_of_no_length_of_its_own(self):
        for to_row in (jump, when, unless):
            for number in (2, 0, -1, -3, 4, 5, 31, FIGURE_LIMIT, -FIGURE_LIMIT):
                self.assertIs(right_lengths([to_row(1), STOP], 9, [number, 1]), False)
                self.assertIs(right_lengths([to_row(0)], 10 ** 40, [number]), False)
            for number in (1, 3):
                self.assertIs(right_lengths([to_row(1), STOP], 9, [number, 1]), True)
        for place in (0, 2, 3, 5):
            for number in (2, 0, -1, -3, 4):
                self.wrong(self.changed(place, number))
                self.wrong(self.changed(place, number), 999)

    def test_two_wrong_ones_do_not_make_a_right_one(self):
        rows = [jump(3), SAY, SAY, STOP]
        self.assertIs(right_lengths(rows, 2, [1, 3, -1, 1]), False)
        self.assertIs(right_lengths(rows, 2, [1, 2, 0, 1]), False)
        self.assertIs(right_lengths(rows, 1, [1, 0, 1, 1]), False)
        self.assertIs(right_lengths(rows, 1, [1, 1, 0, 1]), False)

    def test_right_ones_that_are_not_the_shortest(self):
        self.right([3, 1, 3, 3, 1, 3, 1])
        self.right([3, 1, 3, 1, 1, 3, 1])
        self.right([1, 1, 3, 3, 1, 3, 1])
        for reach in (0, 1, 2, 999, FIGURE_LIMIT):
            self.right([3, 1, 3, 3, 1, 3, 1], reach)
        self.assertIs(right_lengths([jump(1), STOP], 0, [3, 1]), True)

    def test_short_ones_that_may_not_be_so(self):
        self.wrong([1, 1, 1, 1, 1, 3, 1])
        self.wrong([1, 1, 3, 1, 1, 1, 1])
        self.wrong([1, 1, 1, 1, 1, 1, 1])
        self.wrong(self.told, 0)
        self.right([3, 1, 3, 1, 1, 3, 1], 0)
        self.right(self.told, 1)

    def test_a_longer_one_may_make_another_wrong(self):
        self.right([1, 1, 1, 1, 1, 3, 1], 3)
        self.wrong([3, 1, 1, 1, 1, 3, 1], 3)
        self.wrong([3, 1, 1, 1, 1, 3, 1], 4)
        self.right([3, 1, 1, 1, 1, 3, 1], 5)
        self.right([3, 1, 1, 3, 1, 3, 1], 5)
        self.right([1, 1, 1, 1, 1, 1, 1], 5)
        self.wrong([1, 1, 1, 3, 1, 1, 1], 6)
        self.right([1, 1, 1, 3, 1, 1, 1], 7)
        self.wrong([1, 1, 3, 3, 1, 1, 1], 8)
        self.right([1, 1, 3, 3, 1, 1, 1], 9)

    def test_edges_of_the_reach(self):
        for to_row in (jump, when, unless):
            for rows, span in (
                ([to_row(1), STOP], 0), ([to_row(3), SAY, SAY, STOP], 2), ([SAY, to_row(1), SAY, STOP], 1),
                ([SAY, SAY, to_row(0), STOP], 3), ([to_row(2), SAY], 1), ([SAY, to_row(2)], 0),
            ):
                for reach in range(span + 3):
                    self.assertIs(right_lengths(rows, reach, [1] * len(rows)), reach >= span)


class OwnListsTest(unittest.TestCase):
    def setUp(self):
        self.rows = [jump(2), SAY, when(0), table(1, 2), STOP]

    def test_nothing_handed_in_is_changed(self):
        rows, told = self.rows, [1, 1, 3, 1, 1]
        kept = copy.deepcopy((rows, told))
        for reach in (0, 1, 2, 999):
            lengths(rows, reach)
            right_lengths(rows, reach, told)
            right_lengths(rows, reach, told[1:])
        self.assertEqual((rows, told), kept)

    def test_lists_are_new_ones(self):
        for rows in (self.rows, [STOP], []):
            answers = [lengths(rows, 0), lengths(rows, 0), lengths(rows, 9), lengths(rows, 9), rows]
            found = lists_in(answers)
            self.assertEqual(len(found), 6)
            self.assertEqual(len({id(one) for one in found}), 6)

    def test_what_the_asker_changes_is_not_told_again(self):
        for turn in range(3):
            told = lengths(self.rows, 1)
            self.assertEqual(told, [1, 1, 3, 1, 1])
            told.append(3)
            told[0] = 7

    def test_what_is_changed_behind_is_taken_as_it_is_now(self):
        told = lengths(self.rows, 1)
        self.assertIs(right_lengths(self.rows, 1, told), True)
        self.rows[0] = jump(4)
        self.assertEqual(lengths(self.rows, 1), [3, 1, 3, 1, 1])
        self.assertIs(right_lengths(self.rows, 1, told), False)
        told[0] = 3
        self.assertIs(right_lengths(self.rows, 1, told), True)
        self.rows.append(STOP)
        self.assertIs(right_lengths(self.rows, 1, told), False)
        told.append(1)
        self.assertIs(right_lengths(self.rows, 1, told), True)


if __name__ == "__main__":
    unittest.main()
