"""What several tests share: texts, programs made by a seed, runs reckoned from the text itself, and listed costs."""

import itertools
import random

from blockfall.reader import read
from blockfall.runs import ways

FIGURE_LIMIT = 10 ** 30 - 1


def text_of(*rows):
    return "\n".join(rows)


# Counts down from what is asked for.
# Ways: begin to check, loop to check, check to loop, check to pick, pick to done, pick to begin.
COUNTING = text_of(
    "box a 0",
    "block begin", "ask a", "go check",
    "block loop", "say a", "put a a-1", "go check",
    "block check", "if 0 < a loop else pick",
    "block pick", "say 100", "table a done begin",
    "block done", "stop",
)


def lists_in(value):
    """All lists within a value, itself too, each as often as it stands there."""
    found = [value] if isinstance(value, list) else []
    if isinstance(value, (list, tuple)):
        for part in value:
            found += lists_in(part)
    return found


def kinds_of(value):
    """A value's kind and those of its parts: tells a truth from a whole number, which == does not."""
    if isinstance(value, (list, tuple)):
        return (type(value), [kinds_of(part) for part in value])
    return type(value)


def orders_of(many):
    """All orders of so many blocks, the first ones first."""
    for rest in itertools.permutations(range(1, many)):
        yield (0,) + rest


def parts_of(text):
    """A text's boxes as a dict, its blocks' names, and of each block its rows as lists of words."""
    boxes, names, blocks = {}, [], []
    for row in text.split("\n"):
        words = row.split(" ")
        if words[0] == "box":
            boxes[words[1]] = int(words[2])
        elif words[0] == "block":
            names.append(words[1])
            blocks.append([])
        else:
            blocks[-1].append(words)
    return boxes, names, blocks


def side_by_python(words, held):
    """The side by which an end, told as its row's words, goes, and the name of the block there."""
    if words[0] == "go":
        return 0, words[1]
    if words[0] == "if":
        sign = "==" if words[2] == "=" else "<"
        side = 0 if eval(f"({words[1]}) {sign} ({words[3]})", {}, dict(held)) else 1
        return side, (words[4], words[6])[side]
    side = eval(words[1], {}, dict(held)) % len(words[2:])
    return side, words[2 + side]


def steps(text, numbers):
    """A run of a text, step by step: ("do", said or None), ("way", way) and at the end ("end", word)."""
    held, names, blocks = parts_of(text)
    left = list(numbers)
    place = 0
    while True:
        for words in blocks[place][:-1]:
            said = None
            if words[0] == "put":
                held[words[1]] = eval(words[2], {}, dict(held)) % 10 ** 6
            elif words[0] == "say":
                said = eval(words[1], {}, dict(held))
            elif left:
                held[words[1]] = left.pop(0) % 10 ** 6
            else:
                yield ("end", "out")
                return
            yield ("do", said)
        if blocks[place][-1] == ["stop"]:
            yield ("end", "stop")
            return
        side, name = side_by_python(blocks[place][-1], held)
        yield ("way", (place, side, names.index(name)))
        place = names.index(name)


def run_by_text(text, numbers, bound):
    said, went = [], []
    for head, value in steps(text, numbers):
        if head == "end":
            return (said, (value,), went)
        if head == "do" and value is not None:
            said.append(value)
        if head == "way":
            went.append(value)
            if len(went) == bound:
                return (said, ("on",), went)


def rows_done(words, side, to, behind):
    """The rows laid for an end that are done where it goes by a side to a block: 1 for one that jumps, else 0."""
    if words[0] == "table":
        return [1]
    if words[0] == "go" or words[4] == words[6]:
        return [] if to == behind else [1]
    if to == behind:
        return [0]
    other = (words[6], words[4])[side]
    return [1] if side == 0 or other == behind else [0, 1]


def run_rows_by_text(text, order, numbers, bound):
    """What a run of the rows laid in an order is to tell, without laying any."""
    names, blocks = parts_of(text)[1:]
    next_names = dict(zip([names[place] for place in order], [names[place] for place in order[1:]] + [None]))
    said, jumps, done = [], 0, 0
    for head, value in steps(text, numbers):
        if head == "end":
            return (said, ("on",) if done == bound else (value,), jumps)
        if head == "do":
            rows = [0]
        else:
            place, side, to = value
            rows = rows_done(blocks[place][-1], side, names[to], next_names[names[place]])
        for jumped in rows:
            if done == bound:
                return (said, ("on",), jumps)
            done += 1
            jumps += jumped
        if head == "do" and value is not None:
            said.append(value)


def listed_cost(program, order, counted):
    """An order's cost, way by way."""
    jumps = 0
    for (place, side, to), count in zip(ways(program), counted):
        stands_next = order[order.index(place) + 1:][:1] == (to,)
        if program[1][place][2][0] == "table" or not stands_next:
            jumps += count
    return jumps


def listed_gains(program, counted):
    """A row for each block: what each other one gains behind it."""
    many = len(program[1])
    gained = [[0] * many for place in range(many)]
    for (place, side, to), count in zip(ways(program), counted):
        if program[1][place][2][0] != "table":
            gained[place][to] += count
    return gained


class Maker:
    """Makes programs' texts and counts, the same ones for the same seed."""

    def __init__(self, seed):
        self.chance = random.Random(seed)

    def factor(self):
        return self.chance.choice(["a", "b", "c", "0", "1", "2", "7", "999", "(a-b)", "(0-c)", "(b+3)"])

    def expression(self):
        word = self.factor()
        for more in range(self.chance.randrange(3)):
            word += self.chance.choice("+-*") + self.factor()
        return word

    def statement(self):
        kind = self.chance.choice(("put", "put", "say", "say", "ask"))
        box = self.chance.choice("abc")
        if kind == "put":
            return f"put {box} {self.expression()}"
        return f"say {self.expression()}" if kind == "say" else f"ask {box}"

    def end(self, names):
        kind = self.chance.choice(("go", "go", "if", "if", "if", "table", "stop"))
        some = self.chance.choices(names, k=6)
        if kind == "go":
            return f"go {some[0]}"
        if kind == "if":
            sign = self.chance.choice("<=")
            return f"if {self.expression()} {sign} {self.expression()} {some[0]} else {some[1]}"
        if kind == "table":
            return f"table {self.expression()} " + " ".join(some[:self.chance.randrange(1, 7)])
        return "stop"

    def text(self, many, most_statements=2):
        names = ["pqrstuvwxy"[place] for place in range(many)]
        rows = ["box a 0", "box b 5", "box c 999"]
        for name in names:
            rows.append(f"block {name}")
            rows += [self.statement() for more in range(self.chance.randrange(most_statements + 1))]
            rows.append(self.end(names))
        return text_of(*rows)

    def numbers(self):
        great = self.chance.choice((3, 10, 10 ** 7, FIGURE_LIMIT))
        return [self.chance.randrange(-great, great + 1) for more in range(self.chance.randrange(6))]

    def counted(self, many, greatest):
        return [self.chance.randrange(greatest + 1) for more in range(many)]

    def order(self, many):
        rest = list(range(1, many))
        self.chance.shuffle(rest)
        return (0,) + tuple(rest)


def some_programs(seed, turns, most):
    """Programs of 1 to so many blocks, with counts: small ones, so that many orders cost alike, and great ones."""
    maker = Maker(seed)
    for turn in range(turns):
        program = read(maker.text(1 + turn % most, 0))
        greatest = (0, 1, 2, 5, 100, FIGURE_LIMIT)[turn // most % 6]
        yield program, maker.counted(len(ways(program)), greatest)
