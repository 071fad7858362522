"""A program laid down as rows in some order of its blocks, and runs of such rows."""

from blockfall.doing import Doing
from blockfall.words import STATEMENTS

JUMPS = ("jump", "when", "unless")


def laid(program, order):
    rows = []
    begins = {}
    # Rows lead to blocks at first: where a later block begins is known only when all are laid.
    for place, behind in zip(order, order[1:] + (None,)):
        block = program[1][place]
        begins[place] = len(rows)
        rows.extend(block[1])
        rows.extend(end_rows(block[2], behind))
    return [led_to_rows(row, begins) for row in rows]


def end_rows(end, behind):
    if end[0] == "go":
        return go_rows(end[1], behind)
    if end[0] == "if":
        return if_rows(end, behind)
    return [end]


def go_rows(to, behind):
    return [] if to == behind else [("jump", to)]


def if_rows(end, behind):
    condition = end[1:4]
    first = end[4]
    second = end[5]
    if first == second:
        return go_rows(first, behind)
    if first == behind:
        return [("unless",) + condition + (second,)]
    return [("when",) + condition + (first,)] + go_rows(second, behind)


def led_to_rows(row, begins):
    if row[0] in JUMPS:
        return row[:-1] + (begins[row[-1]],)
    if row[0] == "table":
        return ("table", row[1], tuple([begins[place] for place in row[2]]))
    return row


def run_rows(boxes, rows, numbers, bound):
    doing = Doing(boxes, numbers)
    jumps = 0
    place = 0
    done = 0
    while done < bound:
        row = rows[place]
        if row[0] == "stop":
            return (doing.said, ("stop",), jumps)
        if doing.lacks_number(row):
            return (doing.said, ("out",), jumps)
        if row[0] in STATEMENTS:
            doing.do_statement(row)
        to = row_gone_to(doing, row)
        if to is None:
            place += 1
        else:
            place = to
            jumps += 1
        done += 1
    return (doing.said, ("on",), jumps)


def row_gone_to(doing, row):
    if row[0] == "jump":
        return row[1]
    if row[0] == "when":
        return row[4] if doing.holds(row[1], row[2], row[3]) else None
    if row[0] == "unless":
        return None if doing.holds(row[1], row[2], row[3]) else row[4]
    if row[0] == "table":
        return row[2][doing.chosen(row[1], len(row[2]))]
    return None
