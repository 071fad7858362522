"""From which count of a way on some best order has its two blocks as neighbours."""

from blockfall.best import best, cost
from blockfall.runs import ways


def turning(program, counted, way):
    if not can_be_neighbours(program, way):
        return None
    at_nought = with_count(program, counted, way, 0)
    # A count greater than all others together: no order without the neighbours is as good.
    at_most = with_count(program, counted, way, sum(counted) + 1)
    neighbours = best(program, at_most)
    # The count saves jumps where the two are neighbours alone, so it must make up for what that costs.
    return cost(program, neighbours, at_nought) - cost(program, best(program, at_nought), at_nought)


def can_be_neighbours(program, way):
    end = program[1][way[0]][2]
    return end[0] != "table" and way[2] != way[0] and way[2] != 0


def with_count(program, counted, way, count):
    return [count if other == way else old for other, old in zip(ways(program), counted)]
