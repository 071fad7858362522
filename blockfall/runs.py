"""Runs of a program's blocks, the ways by which ends may go, and how often runs went them."""

from blockfall.doing import Doing


def run(program, numbers, bound):
    doing = Doing(program[0], numbers)
    went = []
    place = 0
    # Every block that was begun and left has put one way down, so the ways tell how many were begun.
    while len(went) < bound:
        block = program[1][place]
        if not do_statements(doing, block[1]):
            return (doing.said, ("out",), went)
        end = block[2]
        if end[0] == "stop":
            return (doing.said, ("stop",), went)
        side = side_taken(doing, end)
        behind = sides_of(end)[side]
        went.append((place, side, behind))
        place = behind
    return (doing.said, ("on",), went)


def do_statements(doing, statements):
    for statement in statements:
        if doing.lacks_number(statement):
            return False
        doing.do_statement(statement)
    return True


def side_taken(doing, end):
    if end[0] == "if":
        return 0 if doing.holds(end[1], end[2], end[3]) else 1
    if end[0] == "table":
        return doing.chosen(end[1], len(end[2]))
    return 0


def sides_of(end):
    if end[0] == "go":
        return (end[1],)
    if end[0] == "if":
        return (end[4], end[5])
    if end[0] == "table":
        return end[2]
    return ()


def ways(program):
    told = []
    # Places and sides are walked upwards, so the ways come sorted.
    for place, block in enumerate(program[1]):
        for side, behind in enumerate(sides_of(block[2])):
            told.append((place, side, behind))
    return told


def counts(program, inputs, bound):
    often = {}
    for way in ways(program):
        often[way] = 0
    for numbers in inputs:
        for way in run(program, numbers, bound)[2]:
            often[way] += 1
    return list(often.values())
