"""The promise over the whole program: point 3, from texts on, stage by stage."""

import unittest

from blockfall.best import best, bound_of, cost, is_right, paper
from blockfall.laying import laid, run_rows
from blockfall.lengths import lengths, right_lengths
from blockfall.reader import read
from blockfall.runs import counts, run, ways
from blockfall.turning import turning
from helping import Maker, orders_of

BOUND = 60
# A block is at most 3 statements and 2 rows for its end.
ROWS_BOUND = 5 * BOUND


class WholeTest(unittest.TestCase):
    def some(self, seed, turns):
        maker = Maker(seed)
        for turn in range(turns):
            program = read(maker.text(1 + turn % 5, 3))
            yield program, [maker.numbers() for more in range(5)]

    def ended(self, program, inputs):
        return [numbers for numbers in inputs if run(program, numbers, BOUND)[1] != ("on",)]

    def test_in_whatever_order_laid_rows_say_and_end_alike_and_jump_as_the_counts_tell(self):
        ends = {}
        for program, inputs in self.some(51, 100):
            for order in orders_of(len(program[1])):
                rows = laid(program, order)
                for numbers in self.ended(program, inputs):
                    said, end, went = run(program, numbers, BOUND)
                    jumps = cost(program, order, counts(program, [numbers], BOUND))
                    self.assertEqual(run_rows(program[0], rows, numbers, ROWS_BOUND), (said, end, jumps))
                    ends[end] = True
        self.assertEqual(sorted(ends), [("out",), ("stop",)])

    def test_the_told_order_is_the_first_of_the_least_and_the_paper_bars_all_fewer(self):
        for program, inputs in self.some(52, 100):
            counted = counts(program, inputs, BOUND)
            costs = {order: cost(program, order, counted) for order in orders_of(len(program[1]))}
            least = min(costs.values())
            self.assertEqual(best(program, counted), min(order for order in costs if costs[order] == least))
            told = paper(program, counted)
            self.assertIs(is_right(program, counted, told), True)
            self.assertEqual(bound_of(program, counted, told), least)

    def test_the_told_lengths_are_right_and_no_row_could_be_shorter(self):
        for program, inputs in self.some(53, 60):
            rows = laid(program, best(program, counts(program, inputs, BOUND)))
            for reach in (0, 1, 3, 8, 100):
                told = lengths(rows, reach)
                self.assertIs(right_lengths(rows, reach, told), True)
                for place, number in enumerate(told):
                    shorter = told[:place] + [1] + told[place + 1:]
                    self.assertIs(right_lengths(rows, reach, shorter), number == 1)

    def test_from_the_told_count_on_and_not_below_some_best_order_has_the_neighbours(self):
        found = {True: 0, False: 0}
        for program, inputs in self.some(54, 60):
            counted = counts(program, inputs, BOUND)
            for place, way in enumerate(ways(program)):
                told = turning(program, counted, way)
                if told is None:
                    continue
                for count in (0, told - 1, told, told + 1, told + 100):
                    if count >= 0:
                        changed = counted[:place] + [count] + counted[place + 1:]
                        has = self.some_best_has_neighbours(program, changed, way)
                        self.assertIs(has, count >= told)
                        found[has] += 1
        self.assertGreater(min(found.values()), 30)

    def some_best_has_neighbours(self, program, counted, way):
        least = cost(program, best(program, counted), counted)
        orders = [order for order in orders_of(len(program[1])) if cost(program, order, counted) == least]
        return any((way[0], way[2]) in zip(order, order[1:]) for order in orders)


if __name__ == "__main__":
    unittest.main()
