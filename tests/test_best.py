"""The best order and papers: points 12 and 13, and points 2 and 3 as far as they speak of them."""

import copy
import itertools
import unittest

from blockfall.best import best, bound_of, cost, is_right, paper
from blockfall.laying import laid, run_rows
from blockfall.reader import read
from blockfall.runs import counts, ways
from helping import (
    FIGURE_LIMIT, Maker, kinds_of, listed_cost, listed_gains, lists_in, orders_of, some_programs, text_of)

# Ways: (0, 0, 1), (0, 1, 2), (1, 0, 2), (2, 0, 1), (2, 1, 0).
THREE = text_of("block x", "if 1 < 2 y else z", "block y", "go z", "block z", "if 1 = 2 y else x")
# Ways: (0, 0, 1), (0, 1, 1), (1, 0, 2), (1, 1, 2), (1, 2, 0), (2, 0, 0), (3, 0, 1).
KINDS = text_of("block w", "if 1 < 2 x else x", "block x", "table 1 y y w", "block y", "go w", "block z", "go x")
LONE = "block x\ngo x"


def listed_paper(program, counted):
    """For each pair the greatest gain of all orders of these blocks, 0 first and the last one last."""
    many = len(program[1])
    gained = listed_gains(program, counted)
    told = {}
    for size in range(many):
        for rest in itertools.permutations(range(1, many), size):
            order = (0,) + rest
            pair = (tuple(sorted(order)), order[-1])
            gain = sum(gained[one][other] for one, other in zip(order, order[1:]))
            told[pair] = max(gain, told.get(pair, 0))
    return sorted((blocks, last, gain) for (blocks, last), gain in told.items())


class CostTest(unittest.TestCase):
    def check(self, text, order, counted, told):
        with self.subTest(text=text, order=order, counted=counted):
            got = cost(read(text), order, counted)
            self.assertEqual(got, told)
            self.assertIs(type(got), int)

    def test_one_block(self):
        self.check("block x\nstop", (0,), [], 0)
        self.check(LONE, (0,), [7], 7)
        self.check("block x\nif 1 < 2 x else x", (0,), [7, 8], 15)
        self.check("block x\ntable 1 x x x", (0,), [7, 8, 9], 24)

    def test_go(self):
        text = "block x\ngo y\nblock y\nstop\nblock z\nstop"
        self.check(text, (0, 1, 2), [7], 0)
        self.check(text, (0, 2, 1), [7], 7)

    def test_if(self):
        text = "block x\nif 1 < 2 y else z\nblock y\nstop\nblock z\nstop\nblock w\nstop"
        self.check(text, (0, 1, 2, 3), [5, 11], 11)
        self.check(text, (0, 2, 1, 3), [5, 11], 5)
        self.check(text, (0, 3, 1, 2), [5, 11], 16)

    def test_an_if_both_of_whose_sides_are_one_block(self):
        text = "block x\nif 1 < 2 y else y\nblock y\nstop\nblock z\nstop"
        self.check(text, (0, 1, 2), [5, 11], 0)
        self.check(text, (0, 2, 1), [5, 11], 16)

    def test_tables_jump_each_time(self):
        text = "block x\ntable 1 y z y\nblock y\nstop\nblock z\nstop"
        self.check(text, (0, 1, 2), [5, 11, 100], 116)
        self.check(text, (0, 2, 1), [5, 11, 100], 116)

    def test_ways_to_the_own_and_to_the_first_block_jump(self):
        text = "block x\ngo y\nblock y\nif 1 < 2 y else x"
        self.check(text, (0, 1), [5, 11, 100], 111)

    def test_the_last_block_has_none_next(self):
        self.check("block x\nstop\nblock y\ngo z\nblock z\ngo y", (0, 1, 2), [5, 11], 11)
        self.check("block x\nstop\nblock y\ngo z\nblock z\ngo y", (0, 2, 1), [5, 11], 5)

    def test_every_order_of_small_programs(self):
        for order, told in (((0, 1, 2), 2 + 8 + 16), ((0, 2, 1), 1 + 4 + 16)):
            self.check(THREE, order, [1, 2, 4, 8, 16], told)
        for order in orders_of(4):
            jumps = 4 + 8 + 16 + 32
            jumps += 0 if order[1] == 1 else 1 + 2
            jumps += 0 if (3, 1) in zip(order, order[1:]) else 64
            self.check(KINDS, order, [1, 2, 4, 8, 16, 32, 64], jumps)

    def test_costs_are_as_listed(self):
        for program, counted in some_programs(12, 120, 6):
            for order in orders_of(len(program[1])):
                self.assertEqual(cost(program, order, counted), listed_cost(program, order, counted))

    def test_great_counts(self):
        great = FIGURE_LIMIT
        self.check(THREE, (0, 1, 2), [great] * 5, 3 * great)
        self.check(THREE, (0, 2, 1), [great, 0, great, 0, great], 3 * great)

    def test_counts_of_nought(self):
        for order in orders_of(4):
            self.check(KINDS, order, [0] * 7, 0)

    def test_the_cost_is_how_often_laid_rows_jump(self):
        maker = Maker(3)
        for turn in range(150):
            program = read(maker.text(1 + turn % 6))
            order = maker.order(len(program[1]))
            inputs = [maker.numbers() for more in range(4)]
            runs = [run_rows(program[0], laid(program, order), numbers, 2000) for numbers in inputs]
            ended = [place for place in range(4) if runs[place][1] != ("on",)]
            counted = counts(program, [inputs[place] for place in ended], 2000)
            self.assertEqual(cost(program, order, counted), sum(runs[place][2] for place in ended))


class BestTest(unittest.TestCase):
    def check(self, text, counted, told):
        with self.subTest(text=text, counted=counted):
            got = best(read(text), counted)
            self.assertEqual(got, told)
            self.assertEqual(kinds_of(got), kinds_of(told))

    def test_one_block(self):
        self.check("block x\nstop", [], (0,))
        self.check(LONE, [0], (0,))
        self.check(LONE, [9], (0,))

    def test_two_blocks(self):
        self.check("block x\nstop\nblock y\ngo x", [9], (0, 1))

    def test_three_blocks(self):
        self.check(THREE, [1, 2, 4, 8, 16], (0, 2, 1))
        self.check(THREE, [1, 2, 40, 8, 16], (0, 1, 2))
        self.check(THREE, [10, 2, 1, 8, 16], (0, 1, 2))

    def test_the_first_of_several(self):
        self.check(THREE, [0, 0, 0, 0, 0], (0, 1, 2))
        self.check(THREE, [3, 2, 4, 5, 6], (0, 1, 2))
        self.check(THREE, [3, 2, 4, 6, 6], (0, 2, 1))
        self.check(KINDS, [0] * 7, (0, 1, 2, 3))
        # Two blocks behind one another save alike wherever they stand; the first such order is told.
        text = "block v\nstop\nblock w\nstop\nblock x\nstop\nblock y\nstop\nblock z\ngo w"
        self.check(text, [1], (0, 2, 3, 4, 1))
        text = "block v\nstop\nblock w\nstop\nblock x\nstop\nblock y\nstop\nblock z\ngo x"
        self.check(text, [1], (0, 1, 3, 4, 2))

    def test_a_greedy_order_is_not_always_best(self):
        # The greatest way, y to z, is given up for x to z and y to w together.
        text = "block x\nif 1 < 2 z else y\nblock y\nif 1 < 2 z else w\nblock z\ngo y\nblock w\nstop"
        program = read(text)
        self.assertEqual(ways(program), [(0, 0, 2), (0, 1, 1), (1, 0, 2), (1, 1, 3), (2, 0, 1)])
        self.check(text, [9, 0, 10, 5, 6], (0, 2, 1, 3))
        self.check(text, [0, 9, 10, 5, 6], (0, 1, 2, 3))

    def test_tables_save_nothing(self):
        text = "block x\ntable 1 z z\nblock y\nstop\nblock z\nstop"
        self.check(text, [100, 100], (0, 1, 2))

    def test_sides_to_one_block_count_together(self):
        text = "block x\nif 1 < 2 z else z\nblock y\nstop\nblock z\nstop\nblock w\nif 1 < 2 z else y"
        self.check(text, [3, 3, 5, 0], (0, 2, 1, 3))
        self.check(text, [3, 1, 5, 0], (0, 1, 3, 2))

    def test_the_first_of_the_least_of_all_listed(self):
        for program, counted in some_programs(1, 300, 6):
            costs = [listed_cost(program, order, counted) for order in orders_of(len(program[1]))]
            told = list(orders_of(len(program[1])))[costs.index(min(costs))]
            self.assertEqual(best(program, counted), told)

    def check_listed(self, program, counted):
        """As above, of all orders, for programs of many blocks: what neighbours gain is summed alone."""
        gained = listed_gains(program, counted)
        most, told = -1, None
        for order in orders_of(len(program[1])):
            gain = 0
            for place in range(len(order) - 1):
                gain += gained[order[place]][order[place + 1]]
            if gain > most:
                most, told = gain, order
        self.assertEqual(best(program, counted), told)
        self.assertEqual(cost(program, told, counted), listed_cost(program, told, counted))

    def test_programs_of_seven_and_eight_blocks(self):
        maker = Maker(7)
        for turn in range(12):
            program = read(maker.text(7 + turn % 2, 0))
            self.check_listed(program, maker.counted(len(ways(program)), (2, 9, FIGURE_LIMIT)[turn % 3]))

    def test_a_program_of_ten_blocks(self):
        names = "abcdefghij"
        rows = []
        for place, name in enumerate(names):
            rows += [f"block {name}", f"if 1 < 2 {names[(3 * place + 2) % 10]} else {names[(7 * place + 4) % 10]}"]
        program = read(text_of(*rows))
        self.check_listed(program, Maker(10).counted(20, 4))

    def test_ten_blocks_in_a_told_order(self):
        order = (0, 7, 3, 9, 1, 8, 2, 6, 4, 5)
        names = "abcdefghij"
        ends = ["stop"] * 10
        for one, other in zip(order, order[1:]):
            ends[one] = f"go {names[other]}"
        text = text_of(*[row for name, end in zip(names, ends) for row in (f"block {name}", end)])
        self.check(text, [1] * 9, order)
        self.check(text, [FIGURE_LIMIT] * 9, order)
        self.check(text, [0] * 9, tuple(range(10)))

    def test_counts_of_thirty_figures(self):
        great = FIGURE_LIMIT
        self.check(THREE, [great, 0, great - 1, 1, 0], (0, 1, 2))
        # Greater by one of thirty figures, where a number with a point would see no difference.
        self.check(THREE, [great - 2, great - 1, great, great, 0], (0, 2, 1))
        self.check(THREE, [great - 1, great - 2, great, great, 0], (0, 1, 2))
        self.check(THREE, [great - 1, great - 1, great, great, 0], (0, 1, 2))

    def test_more_blocks_than_are_read(self):
        blocks = [(f"x{place}", [], ("go", (place + 5) % 12)) for place in range(12)]
        order = tuple([5 * place % 12 for place in range(12)])
        self.assertEqual(best(([], blocks), [1] * 12), order)


class PaperTest(unittest.TestCase):
    def check(self, text, counted, told):
        with self.subTest(text=text, counted=counted):
            got = paper(read(text), counted)
            self.assertEqual(got, told)
            self.assertEqual(kinds_of(got), kinds_of(told))

    def test_one_block(self):
        self.check("block x\nstop", [], [((0,), 0, 0)])
        self.check(LONE, [9], [((0,), 0, 0)])

    def test_two_blocks(self):
        self.check("block x\ngo y\nblock y\ngo x", [5, 9], [((0,), 0, 0), ((0, 1), 1, 5)])

    def test_three_blocks(self):
        self.check(THREE, [1, 2, 4, 8, 16], [
            ((0,), 0, 0), ((0, 1), 1, 1), ((0, 1, 2), 1, 10), ((0, 1, 2), 2, 5), ((0, 2), 2, 2)])
        self.check(THREE, [0, 0, 0, 0, 0], [
            ((0,), 0, 0), ((0, 1), 1, 0), ((0, 1, 2), 1, 0), ((0, 1, 2), 2, 0), ((0, 2), 2, 0)])

    def test_four_blocks(self):
        self.check(KINDS, [1, 2, 4, 8, 16, 32, 64], [
            ((0,), 0, 0),
            ((0, 1), 1, 3),
            ((0, 1, 2), 1, 0), ((0, 1, 2), 2, 3),
            ((0, 1, 2, 3), 1, 64), ((0, 1, 2, 3), 2, 64), ((0, 1, 2, 3), 3, 3),
            ((0, 1, 3), 1, 64), ((0, 1, 3), 3, 3),
            ((0, 2), 2, 0),
            ((0, 2, 3), 2, 0), ((0, 2, 3), 3, 0),
            ((0, 3), 3, 0),
        ])

    def test_papers_are_as_listed(self):
        for program, counted in some_programs(4, 180, 6):
            told = paper(program, counted)
            self.assertEqual(told, listed_paper(program, counted))
            self.assertEqual(told, sorted(told))

    def test_the_told_paper_is_right_and_bars_all_that_are_fewer(self):
        for program, counted in some_programs(5, 120, 10):
            told = paper(program, counted)
            self.assertIs(is_right(program, counted, told), True)
            self.assertEqual(bound_of(program, counted, told), cost(program, best(program, counted), counted))

    def test_ten_blocks(self):
        program = read(text_of(*[row for name in "abcdefghij" for row in (f"block {name}", "go j")]))
        told = paper(program, [1] * 10)
        self.assertEqual(len(told), 1 + 9 * 256)
        self.assertEqual(told[0], ((0,), 0, 0))
        for blocks, last, number in told:
            self.assertEqual(number, 1 if 9 in blocks and (last == 9 or len(blocks) > 2) else 0)
        self.assertIs(is_right(program, [1] * 10, told), True)
        self.assertEqual(bound_of(program, [1] * 10, told), 9)


class RightTest(unittest.TestCase):
    def setUp(self):
        self.program = read(THREE)
        self.counted = [1, 2, 4, 8, 16]
        self.told = paper(self.program, self.counted)

    def right(self, told, bound):
        with self.subTest(told=told):
            self.assertIs(is_right(self.program, self.counted, told), True)
            got = bound_of(self.program, self.counted, told)
            self.assertEqual(got, bound)
            self.assertIs(type(got), int)

    def wrong(self, told):
        with self.subTest(told=told):
            self.assertIs(is_right(self.program, self.counted, told), False)

    def raised(self, by):
        return [(blocks, last, number + by) for blocks, last, number in self.told]

    def test_the_told_one(self):
        self.right(self.told, 31 - 10)

    def test_none_at_all(self):
        self.wrong([])

    def test_a_pair_lacking(self):
        for place in range(5):
            self.wrong(self.told[:place] + self.told[place + 1:])

    def test_a_pair_told_twice(self):
        for place in range(5):
            blocks, last, number = self.told[place]
            for more in (0, 1, -1, 100, -100):
                twice = (blocks, last, number + more)
                self.wrong(self.told + [twice])
                self.wrong([twice] + self.told)
                self.wrong(self.told[:place] + [twice] + self.told[place:])

    def test_a_pair_told_twice_in_the_place_of_another(self):
        for place in range(5):
            for other in range(5):
                if place != other:
                    changed = list(self.told)
                    changed[place] = changed[other]
                    self.wrong(changed)

    def test_a_pair_too_many(self):
        for pair in (((0, 3), 3), ((0, 1, 2, 3), 3), ((0, 1, 2, 3), 1), ((0, 1), 0), ((0, 1, 2), 0)):
            for number in (0, 10, 1000):
                self.wrong(self.told + [pair + (number,)])
                self.wrong([pair + (number,)] + self.told)
                self.wrong(self.told[1:] + [pair + (number,)])
                self.wrong(self.told[:-1] + [pair + (number,)])

    def test_papers_of_other_counts_of_blocks(self):
        two = read("block x\ngo y\nblock y\ngo x")
        four = read(KINDS)
        self.wrong(paper(two, [0, 0]))
        self.wrong(paper(four, [100] * 7))
        self.assertIs(is_right(two, [0, 0], self.told), False)
        self.assertIs(is_right(four, [0] * 7, self.told), False)

    def test_a_number_one_too_small(self):
        for place in range(5):
            blocks, last, number = self.told[place]
            self.wrong(self.told[:place] + [(blocks, last, number - 1)] + self.told[place + 1:])

    def test_one_too_small_among_raised_ones(self):
        # Of the first number nothing is asked but that it be 0 or more, so it alone may be less.
        for by in (1, 7, 10 ** 40):
            raised = self.raised(by)
            for place in range(1, 5):
                blocks, last, number = raised[place]
                self.wrong(raised[:place] + [(blocks, last, number - 1)] + raised[place + 1:])
            self.right([((0,), 0, by - 1)] + raised[1:], 21 - by)
            self.right([((0,), 0, 0)] + raised[1:], 21 - by)
            self.wrong([((0,), 0, -1)] + raised[1:])

    def test_below_nought_for_the_first_pair(self):
        for by in (-1, -2, -100):
            self.wrong(self.raised(by))
            self.wrong([((0,), 0, by)] + self.told[1:])

    def test_numbers_greater_than_need_be(self):
        for by in (1, 5, 21, 22, 1000, FIGURE_LIMIT, 10 ** 60):
            self.right(self.raised(by), 21 - by)

    def test_one_number_of_all_blocks_greater(self):
        # Nothing follows on all blocks; the greatest number alone makes the bound.
        pairs = self.told[:2] + self.told[4:]
        self.right(pairs + [((0, 1, 2), 1, 10), ((0, 1, 2), 2, 9)], 21)
        self.right(pairs + [((0, 1, 2), 1, 10), ((0, 1, 2), 2, 12)], 19)
        self.right(pairs + [((0, 1, 2), 1, 14), ((0, 1, 2), 2, 12)], 17)
        self.wrong(pairs + [((0, 1, 2), 1, 9), ((0, 1, 2), 2, 12)])
        self.wrong(pairs + [((0, 1, 2), 1, 14), ((0, 1, 2), 2, 4)])

    def test_one_number_of_some_blocks_greater_asks_more_behind(self):
        first, one, all_one, all_two, two = self.told
        self.wrong([first, ((0, 1), 1, 2), all_one, all_two, two])
        self.right([first, ((0, 1), 1, 2), all_one, ((0, 1, 2), 2, 6), two], 21)
        self.wrong([first, one, all_one, all_two, ((0, 2), 2, 3)])
        self.right([first, one, ((0, 1, 2), 1, 11), all_two, ((0, 2), 2, 3)], 20)
        self.wrong([((0,), 0, 1), one, all_one, all_two, two])

    def test_a_great_number_of_few_blocks_asks_for_a_great_one_of_all(self):
        first, one, all_one, all_two, two = self.told
        self.right([first, ((0, 1), 1, 50), all_one, ((0, 1, 2), 2, 54), two], 31 - 54)
        program = read("block x\nstop\nblock y\nstop")
        self.assertEqual(bound_of(program, [], [((0,), 0, 3), ((0, 1), 1, 5)]), -5)

    def test_in_another_order(self):
        for told in itertools.permutations(self.told):
            self.right(list(told), 21)
        for told in itertools.permutations(self.raised(3)):
            self.right(list(told), 18)
        for told in itertools.permutations(self.told[:4] + [((0, 2), 2, 1)]):
            self.wrong(list(told))

    def test_counts_decide(self):
        self.assertIs(is_right(self.program, [1, 2, 4, 8, 1000], self.told), True)
        for counted in ([2, 2, 4, 8, 16], [1, 3, 4, 8, 16], [1, 2, 5, 8, 16], [1, 2, 4, 9, 16]):
            self.assertIs(is_right(self.program, counted, self.told), False)
        for counted in ([0, 2, 4, 8, 16], [1, 1, 4, 8, 16], [1, 2, 3, 8, 16], [1, 2, 4, 7, 16], [0, 0, 0, 0, 0]):
            self.assertIs(is_right(self.program, counted, self.told), True)
            self.assertEqual(bound_of(self.program, counted, self.told), sum(counted) - 10)

    def test_one_block(self):
        program = read(LONE)
        for number in (0, 1, FIGURE_LIMIT):
            self.assertIs(is_right(program, [9], [((0,), 0, number)]), True)
            self.assertEqual(bound_of(program, [9], [((0,), 0, number)]), 9 - number)
        self.assertIs(is_right(program, [9], [((0,), 0, -1)]), False)
        self.assertIs(is_right(program, [9], [((0,), 0, 0), ((0,), 0, 0)]), False)
        self.assertIs(is_right(program, [9], []), False)

    def test_numbers_below_nought_are_held_as_others(self):
        # With 0 for the first pair no other can be below it, however small the gains.
        program = read("block x\nstop\nblock y\nstop")
        self.assertIs(is_right(program, [], [((0,), 0, 0), ((0, 1), 1, 0)]), True)
        self.assertIs(is_right(program, [], [((0,), 0, 0), ((0, 1), 1, -1)]), False)
        self.assertIs(is_right(program, [], [((0,), 0, -1), ((0, 1), 1, 0)]), False)
        self.assertIs(is_right(program, [], [((0,), 0, -1), ((0, 1), 1, -1)]), False)

    def test_tables_gain_nothing(self):
        program = read("block x\ntable 1 y y\nblock y\nstop")
        told = [((0,), 0, 0), ((0, 1), 1, 0)]
        self.assertEqual(paper(program, [5, 6]), told)
        self.assertIs(is_right(program, [5, 6], told), True)
        self.assertEqual(bound_of(program, [5, 6], told), 11)

    def test_every_number_of_greater_papers_one_too_small(self):
        for program, counted in some_programs(6, 30, 5):
            told = paper(program, counted)
            for place, (blocks, last, number) in enumerate(told):
                less = told[:place] + [(blocks, last, number - 1)] + told[place + 1:]
                self.assertIs(is_right(program, counted, less), False)
                self.assertIs(is_right(program, counted, told[:place] + told[place + 1:]), False)
                self.assertIs(is_right(program, counted, told + [told[place]]), False)

    def test_no_order_costs_less_than_a_right_paper_tells(self):
        maker = Maker(13)
        found = {True: 0, False: 0}
        for program, counted in some_programs(14, 200, 4):
            raised = [(blocks, last, number + maker.chance.randrange(len(blocks) ** 2))
                      for blocks, last, number in paper(program, counted)]
            right = is_right(program, counted, raised)
            found[right] += 1
            if right:
                least = min(cost(program, order, counted) for order in orders_of(len(program[1])))
                self.assertLessEqual(bound_of(program, counted, raised), least)
        self.assertGreater(min(found.values()), 30)


class OwnListsTest(unittest.TestCase):
    def test_nothing_handed_in_is_changed(self):
        program, counted = read(THREE), [1, 2, 4, 8, 16]
        told = list(reversed(paper(program, counted)))
        kept = copy.deepcopy((program, counted, told))
        cost(program, (0, 2, 1), counted)
        best(program, counted)
        paper(program, counted)
        is_right(program, counted, told)
        bound_of(program, counted, told)
        is_right(program, counted, told[1:])
        self.assertEqual((program, counted, told), kept)

    def test_lists_are_new_ones(self):
        for text, counted in ((THREE, [1, 2, 4, 8, 16]), (LONE, [0])):
            program = read(text)
            answers = [paper(program, counted), paper(program, counted), program, counted]
            found = lists_in(answers)
            self.assertEqual(len({id(one) for one in found}), len(found))

    def test_what_the_asker_changes_is_not_told_again(self):
        program, counted = read(THREE), [1, 2, 4, 8, 16]
        kept = copy.deepcopy(paper(program, counted))
        for turn in range(2):
            told = paper(program, counted)
            self.assertEqual(told, kept)
            told.pop(0)

    def test_what_is_changed_behind_is_taken_as_it_is_now(self):
        program, counted = read(THREE), [1, 2, 4, 8, 16]
        told = paper(program, counted)
        self.assertEqual(best(program, counted), (0, 2, 1))
        self.assertEqual(cost(program, (0, 2, 1), counted), 21)
        counted[2] = 40
        self.assertEqual(best(program, counted), (0, 1, 2))
        self.assertEqual(cost(program, (0, 2, 1), counted), 57)
        self.assertIs(is_right(program, counted, told), False)
        self.assertEqual(bound_of(program, counted, paper(program, counted)), 67 - 41)
        told[3] = ((0, 1, 2), 2, 41)
        self.assertIs(is_right(program, counted, told), True)
        told.append(told[0])
        self.assertIs(is_right(program, counted, told), False)
        program[1][1] = ("y", [], ("table", ("number", 1), (2,)))
        self.assertEqual(best(program, counted), (0, 2, 1))
        self.assertEqual(paper(program, counted)[3], ((0, 1, 2), 2, 1))


if __name__ == "__main__":
    unittest.main()
