"""Turning counts: point 15, and points 2 and 3 as far as they speak of them."""

import copy
import unittest

from blockfall.reader import read
from blockfall.runs import ways
from blockfall.turning import turning
from helping import FIGURE_LIMIT, Maker, listed_cost, listed_gains, orders_of, some_programs, text_of

# Ways: (0, 0, 1), (0, 1, 2), (1, 0, 2), (2, 0, 1), (2, 1, 0).
THREE = text_of("block x", "if 1 < 2 y else z", "block y", "go z", "block z", "if 1 = 2 y else x")
# Ways: (0, 0, 2), (0, 1, 2), (3, 0, 2), (3, 1, 1).
SIDES = text_of("block x", "if 1 < 2 z else z", "block y", "stop", "block z", "stop", "block w", "if 1 < 2 z else y")
# Ways: (0, 0, 1), (0, 1, 2), (0, 2, 0), (1, 0, 0), (1, 1, 2), (2, 0, 2), (3, 0, 0), (4, 0, 4), (4, 1, 0).
NEVER = text_of(
    "block p", "table 1 q r p", "block q", "if 1 < 2 p else r", "block r", "go r", "block s", "go p",
    "block t", "if 1 < 2 t else p")
NAMES = "abcdefghij"


def with_count(program, counted, way, count):
    changed = list(counted)
    changed[ways(program).index(way)] = count
    return changed


def are_neighbours(order, way):
    return (way[0], way[2]) in zip(order, order[1:])


def some_best_has_neighbours(program, counted, way):
    """Whether of all orders, listed, one of the least cost has the way's two blocks as neighbours."""
    costs = [(listed_cost(program, order, counted), are_neighbours(order, way)) for order in orders_of(len(program[1]))]
    least = min(costs)[0]
    return (least, True) in costs


def listed_turning(program, counted, way):
    """What neighbours cost more than the best of all orders, where the way itself counts nothing."""
    gained = listed_gains(program, with_count(program, counted, way, 0))
    most, most_of_neighbours = 0, -1
    for order in orders_of(len(program[1])):
        gain = 0
        for place in range(len(order) - 1):
            gain += gained[order[place]][order[place + 1]]
        if gain > most:
            most = gain
        if gain > most_of_neighbours and are_neighbours(order, way):
            most_of_neighbours = gain
    return most - most_of_neighbours


def has_turning(program, way):
    return program[1][way[0]][2][0] in ("go", "if") and way[2] not in (0, way[0])


def ring(step, many=10):
    """Blocks each of which goes a step on, and the ends' ways in their order."""
    rows = []
    for place in range(many):
        rows += [f"block {NAMES[place]}", f"go {NAMES[(place + step) % many]}"]
    return read(text_of(*rows))


class TurningTest(unittest.TestCase):
    def check(self, text, counted, way, told):
        with self.subTest(text=text, counted=counted, way=way):
            program = read(text)
            # The way's own count makes no difference.
            for own in (counted[ways(program).index(way)], 0, 1, 17, FIGURE_LIMIT):
                got = turning(program, with_count(program, counted, way, own), way)
                self.assertEqual(got, told)
                self.assertIs(type(got), type(told))


class ToldTest(TurningTest):
    def test_two_blocks_are_neighbours_anyway(self):
        self.check("block x\ngo y\nblock y\nstop", [5], (0, 0, 1), 0)
        text = "block x\nif 1 < 2 y else x\nblock y\ngo x"
        self.check(text, [0, 50, 100], (0, 0, 1), 0)
        self.check(text, [7, 50, 100], (0, 1, 0), None)
        self.check(text, [7, 50, 100], (1, 0, 0), None)

    def test_three_blocks(self):
        # Behind x stand y, z, which saves the first and third way, or z, y, which saves the second and fourth.
        counted = [1, 2, 4, 8, 16]
        self.check(THREE, counted, (0, 0, 1), 2 + 8 - 4)
        self.check(THREE, counted, (1, 0, 2), 2 + 8 - 1)
        self.check(THREE, counted, (0, 1, 2), 0)
        self.check(THREE, counted, (2, 0, 1), 1 + 4 - 2)
        self.check(THREE, counted, (2, 1, 0), None)

    def test_it_is_told_from_where_orders_cost_alike(self):
        self.check(THREE, [0, 5, 3, 2, 9], (0, 0, 1), 4)
        self.check(THREE, [0, 5, 7, 2, 9], (0, 0, 1), 0)
        self.check(THREE, [0, 5, 6, 2, 9], (0, 0, 1), 1)
        self.check(THREE, [0, 5, 8, 2, 9], (0, 0, 1), 0)
        program = read(THREE)
        for count, told in ((3, False), (4, True), (5, True)):
            self.assertIs(some_best_has_neighbours(program, [count, 5, 3, 2, 9], (0, 0, 1)), told)

    def test_neighbours_far_from_the_first(self):
        text = text_of("block v", "stop", "block w", "go x", "block x", "stop", "block y", "go x", "block z", "go y")
        # Ways: (1, 0, 2), (3, 0, 2), (4, 0, 3). Only one of w and y has x behind it.
        self.check(text, [3, 9, 4], (1, 0, 2), 9)
        self.check(text, [3, 9, 4], (3, 0, 2), 3)
        self.check(text, [3, 9, 4], (4, 0, 3), 0)

    def test_a_way_that_would_close_a_ring(self):
        # y, z, w may not be a ring: one of three is left out.
        text = text_of("block x", "stop", "block y", "go z", "block z", "go w", "block w", "go y")
        self.check(text, [5, 6, 7], (1, 0, 2), 0 + 6 + 7 - 7)
        self.check(text, [5, 6, 7], (2, 0, 3), 5)
        self.check(text, [5, 6, 7], (3, 0, 1), 5)
        self.check(text, [0, 6, 7], (3, 0, 1), 0)

    def test_the_other_side_may_have_to_give_way(self):
        text = "block x\nif 1 < 2 y else z\nblock y\nstop\nblock z\nstop"
        self.check(text, [3, 8], (0, 0, 1), 8)
        self.check(text, [3, 8], (0, 1, 2), 3)

    def test_several_ways_may_have_to_give_way(self):
        text = text_of(
            "block x", "if 1 < 2 y else z", "block y", "if 1 < 2 w else z", "block z", "go w", "block w", "go y")
        # Ways: (0, 0, 1), (0, 1, 2), (1, 0, 3), (1, 1, 2), (2, 0, 3), (3, 0, 1).
        self.check(text, [3, 20, 0, 0, 30, 40], (1, 0, 3), 20 + 30 + 40 - 20)
        self.check(text, [3, 20, 0, 0, 30, 40], (1, 1, 2), 20 + 30 + 40 - 40)


class NeverTest(TurningTest):
    def test_ways_of_tables(self):
        for way in ((0, 0, 1), (0, 1, 2), (0, 2, 0)):
            self.check(NEVER, [9] * 9, way, None)
            self.check(NEVER, [0] * 9, way, None)
        self.check("block x\ntable 1 y\nblock y\nstop", [5], (0, 0, 1), None)

    def test_ways_to_the_first_block(self):
        for way in ((1, 0, 0), (3, 0, 0), (4, 1, 0)):
            self.check(NEVER, [9] * 9, way, None)

    def test_ways_to_their_own_block(self):
        for way in ((2, 0, 2), (4, 0, 4)):
            self.check(NEVER, [9] * 9, way, None)

    def test_ways_of_the_first_block_to_itself(self):
        self.check("block x\ngo x", [3], (0, 0, 0), None)
        self.check("block x\nif 1 < 2 x else x", [3, 4], (0, 0, 0), None)
        self.check("block x\nif 1 < 2 x else x", [3, 4], (0, 1, 0), None)
        self.check("block x\nif 1 < 2 x else y\nblock y\nstop", [3, 4], (0, 0, 0), None)

    def test_the_other_side_of_such_ways_is_told(self):
        self.check(NEVER, [9] * 9, (1, 1, 2), 0)
        self.check("block x\nif 1 < 2 x else y\nblock y\nstop", [3, 4], (0, 1, 1), 0)
        text = "block x\ngo z\nblock y\nif 1 < 2 y else z\nblock z\nif 1 < 2 x else y"
        self.check(text, [5, 9, 3, 8, 2], (1, 1, 2), 7)
        self.check(text, [5, 9, 3, 8, 2], (2, 1, 1), 0)
        self.check(text, [5, 9, 8, 8, 0], (2, 1, 1), 3)


class SidesTest(TurningTest):
    def test_both_sides_lead_to_one_block(self):
        self.check(SIDES, [3, 2, 9, 0], (0, 0, 2), 9 - 2)
        self.check(SIDES, [3, 2, 9, 0], (0, 1, 2), 9 - 3)
        self.check(SIDES, [3, 2, 9, 0], (3, 0, 2), 3 + 2)
        self.check(SIDES, [3, 2, 9, 0], (3, 1, 1), 9 - 3 - 2)

    def test_the_other_side_is_enough(self):
        self.check(SIDES, [0, 9, 9, 0], (0, 0, 2), 0)
        self.check(SIDES, [10, 0, 9, 0], (0, 1, 2), 0)
        self.check(SIDES, [0, 8, 9, 0], (0, 0, 2), 1)
        self.check(SIDES, [0, FIGURE_LIMIT, 9, 0], (0, 0, 2), 0)

    def test_both_sides_lead_to_one_block_for_which_there_is_none(self):
        text = "block x\ngo y\nblock y\nif 1 < 2 x else x\nblock z\nif 1 < 2 z else z"
        for way in ((1, 0, 0), (1, 1, 0), (2, 0, 2), (2, 1, 2)):
            self.check(text, [1, 2, 3, 4, 5], way, None)

    def test_tables_to_the_block_save_nothing(self):
        text = "block x\ntable 1 z z\nblock y\ngo z\nblock z\nstop\nblock w\ngo z"
        self.check(text, [100, 100, 5, 7], (1, 0, 2), 7)
        self.check(text, [100, 100, 5, 7], (3, 0, 2), 5)


class ListedTest(TurningTest):
    def check_all(self, program, counted, most_scanned):
        """Of every way: neither None nor a number unlike the listed ones; where it is small all counts are asked."""
        for way in ways(program):
            told = turning(program, counted, way)
            if not has_turning(program, way):
                self.assertIsNone(told)
                continue
            self.assertIs(type(told), int)
            self.assertGreaterEqual(told, 0)
            asked = [told - 1, told, told + 1, told + 5, told + FIGURE_LIMIT]
            if told <= most_scanned:
                asked += range(told)
            for count in asked:
                if count >= 0:
                    changed = with_count(program, counted, way, count)
                    self.assertIs(some_best_has_neighbours(program, changed, way), count >= told)
                    self.assertEqual(turning(program, changed, way), told)

    def test_every_way_of_small_programs(self):
        for program, counted in some_programs(31, 90, 4):
            self.check_all(program, counted, 12)

    def test_every_way_of_programs_of_five_blocks(self):
        maker = Maker(32)
        for turn in range(10):
            program = read(maker.text(5, 0))
            greatest = (0, 1, 3, 9, FIGURE_LIMIT)[turn % 5]
            self.check_all(program, maker.counted(len(ways(program)), greatest), 0)

    def test_programs_of_six_and_seven_blocks(self):
        maker = Maker(33)
        found = {}
        for turn in range(16):
            program = read(maker.text(6 + turn % 2, 0))
            counted = maker.counted(len(ways(program)), (2, 9, 1000, FIGURE_LIMIT)[turn // 2 % 4])
            for way in ways(program):
                told = listed_turning(program, counted, way) if has_turning(program, way) else None
                self.assertEqual(turning(program, counted, way), told)
                found[told if told in (None, 0) else 1] = True
        self.assertEqual(len(found), 3)

    def test_counts_of_nought(self):
        # Where nothing else counts, all orders are best.
        for program, counted in some_programs(34, 40, 8):
            for way in ways(program):
                told = turning(program, [0] * len(counted), way)
                self.assertEqual(told, 0 if has_turning(program, way) else None)

    def test_counts_of_thirty_figures(self):
        great = FIGURE_LIMIT
        self.check(THREE, [0, great, 0, great, great], (0, 0, 1), 2 * great)
        self.check(THREE, [0, great, great - 1, great, great], (0, 0, 1), great + 1)
        self.check(THREE, [0, great, great, 1, great], (0, 0, 1), 1)
        self.check(THREE, [0, great, great, 0, great], (0, 0, 1), 0)
        self.check(THREE, [0, great - 1, great, 1, great], (0, 0, 1), 0)
        self.check(SIDES, [0, great - 1, great, 0], (0, 0, 2), 1)


class TenBlocksTest(TurningTest):
    def test_a_chain_in_its_order(self):
        # Of j, which stands last, the way leads to the first.
        program = ring(1)
        counted = [place + 1 for place in range(10)]
        for place in range(10):
            way = (place, 0, (place + 1) % 10)
            self.assertEqual(turning(program, counted, way), None if place == 9 else 0)

    def test_a_chain_in_another_order(self):
        program = ring(3)
        counted = [FIGURE_LIMIT] * 10
        for place in range(10):
            told = None if place == 7 else 0
            self.assertEqual(turning(program, counted, (place, 0, (place + 3) % 10)), told)

    def test_rings_of_five(self):
        # The blocks at odd places make a ring, so the least of its ways is given up.
        program = ring(2)
        counted = [100, 7, 100, 5, 100, 6, 100, 9, 100, 8]
        told = [0, 5, 0, 6, 0, 5, 0, 5, None, 5]
        for place in range(10):
            self.assertEqual(turning(program, counted, (place, 0, (place + 2) % 10)), told[place])

    def test_a_star(self):
        # All lead to j, and only one has it behind it: the greatest of the others is to be reached.
        rows = []
        for name in NAMES:
            rows += [f"block {name}", "go j" if name != "j" else "stop"]
        program = read(text_of(*rows))
        counted = [4, 8, 15, 16, 23, 42, 1, 2, 3]
        for place in range(9):
            self.assertEqual(turning(program, counted, (place, 0, 9)), 23 if place == 5 else 42)

    def test_a_program_of_which_all_orders_are_listed(self):
        rows = []
        for place, name in enumerate(NAMES):
            rows += [f"block {name}", f"if 1 < 2 {NAMES[(3 * place + 2) % 10]} else {NAMES[(7 * place + 4) % 10]}"]
        program = read(text_of(*rows))
        counted = Maker(35).counted(20, 9)
        told = turning(program, counted, (3, 1, 5))
        self.assertEqual(told, listed_turning(program, counted, (3, 1, 5)))
        self.assertGreater(told, 0)

    def test_more_blocks_than_are_read(self):
        blocks = [(f"x{place}", [], ("go", (place + 5) % 12)) for place in range(12)]
        self.assertEqual(turning(([], blocks), [3] * 12, (4, 0, 9)), 0)
        blocks[2] = ("x2", [], ("go", 9))
        blocks[9] = ("x9", [], ("go", 0))
        self.assertEqual(turning(([], blocks), [3] * 12, (4, 0, 9)), 3)
        self.assertEqual(turning(([], blocks), [3] * 12, (7, 0, 0)), None)


class OwnListsTest(unittest.TestCase):
    def test_nothing_handed_in_is_changed(self):
        program, counted = read(THREE), [1, 2, 4, 8, 16]
        kept = copy.deepcopy((program, counted))
        for way in ways(program):
            turning(program, counted, way)
        self.assertEqual((program, counted), kept)

    def test_the_same_is_answered_the_same(self):
        for turn in range(3):
            self.assertEqual(turning(read(THREE), [1, 2, 4, 8, 16], (0, 0, 1)), 6)

    def test_what_is_changed_behind_is_taken_as_it_is_now(self):
        program, counted = read(THREE), [1, 2, 4, 8, 16]
        self.assertEqual(turning(program, counted, (0, 0, 1)), 6)
        counted[3] = 9
        self.assertEqual(turning(program, counted, (0, 0, 1)), 7)
        program[1][1] = ("y", [], ("table", ("number", 1), (2,)))
        self.assertEqual(turning(program, counted, (0, 0, 1)), 11)
        self.assertIs(turning(program, counted, (1, 0, 2)), None)


if __name__ == "__main__":
    unittest.main()
