"""The order of the fewest jumps by counts of ways, and papers that bar orders of fewer."""

from blockfall.runs import ways

FIRST_PAIR = ((0,), 0)


def gains(program, counted):
    gained = {}
    for way, count in zip(ways(program), counted):
        end = program[1][way[0]][2]
        if end[0] != "table":
            neighbours = (way[0], way[2])
            gained[neighbours] = gained.get(neighbours, 0) + count
    return gained


def cost(program, order, counted):
    gained = gains(program, counted)
    return sum(counted) - sum([gained.get(neighbours, 0) for neighbours in zip(order, order[1:])])


def best(program, counted):
    many = len(program[1])
    gained = gains(program, counted)
    tails = {}
    for blocks in block_sets(many):
        rest = blocks[1:]
        for last in range(many):
            if last not in rest:
                tails[(last, rest)] = best_tail(last, rest, gained, tails)
    return (0,) + tails[(0, tuple(range(1, many)))][1]


def best_tail(last, rest, gained, tails):
    # What all blocks of rest, behind last, gain at most, and the first order of them that does.
    found = None
    for place in rest:
        tail = tails[(place, without(rest, place))]
        gain = gained.get((last, place), 0) + tail[0]
        # Only a greater gain wins: of equals the one with the least place, which came first, stays.
        if found is None or gain > found[0]:
            found = (gain, (place,) + tail[1])
    return (0, ()) if found is None else found


def block_sets(many):
    # A set comes behind all that lack some of its blocks, so what is reckoned of those is there.
    told = [(0,)]
    for place in range(1, many):
        told = told + [blocks + (place,) for blocks in told]
    return told


def without(blocks, place):
    return tuple([block for block in blocks if block != place])


def pairs(many):
    told = [FIRST_PAIR]
    for blocks in block_sets(many):
        for last in blocks[1:]:
            told.append((blocks, last))
    return told


def least_number(blocks, last, numbers, gained):
    if (blocks, last) == FIRST_PAIR:
        return 0
    rest = without(blocks, last)
    # Block 0 stands first, so it is last only where it stands alone.
    lasts = rest if rest == (0,) else rest[1:]
    return max([numbers[(rest, place)] + gained.get((place, last), 0) for place in lasts])


def paper(program, counted):
    gained = gains(program, counted)
    numbers = {}
    for blocks, last in pairs(len(program[1])):
        numbers[(blocks, last)] = least_number(blocks, last, numbers, gained)
    return sorted([pair + (number,) for pair, number in numbers.items()])


def is_right(program, counted, told):
    wanted = pairs(len(program[1]))
    numbers = {}
    for blocks, last, number in told:
        numbers[(blocks, last)] = number
    # As many as are wanted, and every wanted one among them: so none twice and none besides.
    if len(told) != len(wanted) or any([pair not in numbers for pair in wanted]):
        return False
    gained = gains(program, counted)
    return all([numbers[(blocks, last)] >= least_number(blocks, last, numbers, gained) for blocks, last in wanted])


def bound_of(program, counted, told):
    everything = tuple(range(len(program[1])))
    return sum(counted) - max([number for blocks, last, number in told if blocks == everything])
