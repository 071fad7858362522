"""A desk that is told rows and answers each by a text."""

from blockfall.best import best, cost
from blockfall.errors import NoForm, NoneYet, NoOrder, NoWay
from blockfall.laying import laid
from blockfall.lengths import LONG, lengths
from blockfall.reader import place_of, read
from blockfall.runs import run, ways
from blockfall.turning import turning
from blockfall.words import is_name, is_number

LONE_WORDS = ("clear", "read", "counts", "best")
MOST_NUMBERS = 40
RUN_BOUND = 200


class Desk:
    def __init__(self):
        self.rows = []
        self.program = None
        self.counted = []
        self.order = ()

    def say(self, row):
        form = form_of(row)
        if form[0] == "row":
            self.rows.append(form[1])
            return "ok"
        if form[0] == "clear":
            self.rows = []
            return "ok"
        if form[0] == "read":
            return self.read_rows()
        if self.program is None:
            raise NoneYet("no program has been read")
        return self.answer_of_program(form)

    def answer_of_program(self, form):
        if form[0] == "run":
            return self.run_once(form[1])
        if form[0] == "counts":
            return parted(self.counted) if len(self.counted) > 0 else "none"
        if form[0] == "best":
            return self.take_best()
        if form[0] == "order":
            return self.take_order(form[1])
        if form[0] == "laid":
            return self.told_laid(form[1])
        return self.told_turn(form[1], form[2])

    def read_rows(self):
        # A refusal comes ahead of all changes: the program that was there stays.
        program = read("\n".join(self.rows))
        many = len(program[1])
        self.program = program
        self.counted = [0 for way in ways(program)]
        self.order = tuple(range(many))
        return f"blocks {many}"

    def run_once(self, numbers):
        told = run(self.program, numbers, RUN_BOUND)
        went = told[2]
        self.counted = [count + went.count(way) for way, count in zip(ways(self.program), self.counted)]
        return parted(told[0] + [told[1][0]])

    def take_best(self):
        self.order = best(self.program, self.counted)
        known = self.names_of_blocks()
        return parted([known[place] for place in self.order] + [self.told_cost()])

    def take_order(self, names):
        places = tuple(self.places_of(names))
        if places[0] != 0 or sorted(places) != list(range(len(self.program[1]))):
            raise NoOrder("an order has each block once, the first one first")
        self.order = places
        return self.told_cost()

    def told_cost(self):
        jumps = cost(self.program, self.order, self.counted)
        return f"cost {jumps}"

    def told_laid(self, reach):
        rows = laid(self.program, self.order)
        told = lengths(rows, reach)
        return parted([len(rows), sum(told), told.count(LONG)])

    def told_turn(self, one, other):
        places = self.places_of([one, other])
        found = [way for way in ways(self.program) if [way[0], way[2]] == places]
        if len(found) == 0:
            raise NoWay(f"there is no way from {one} to {other}")
        count = turning(self.program, self.counted, found[0])
        return "never" if count is None else str(count)

    def names_of_blocks(self):
        return [name for name, statements, end in self.program[1]]

    def places_of(self, names):
        known = self.names_of_blocks()
        return [place_of(name, known) for name in names]


def parted(parts):
    return " ".join([str(part) for part in parts])


def form_of(row):
    if "\n" in row:
        raise NoForm("a row has no line feed")
    words = row.split(" ")
    head = words[0]
    rest = words[1:]
    many = len(rest)
    # A program's row may be faulty in any way: that is for read to tell.
    if head == "row" and many > 0:
        return ("row", " ".join(rest))
    if head in LONE_WORDS and many == 0:
        return (head,)
    if head == "run" and many <= MOST_NUMBERS and all_numbers(rest):
        return ("run", [int(word) for word in rest])
    if head == "order" and many > 0 and all_names(rest):
        return ("order", rest)
    if head == "laid" and many == 1 and all_numbers(rest):
        return ("laid", int(rest[0]))
    if head == "turn" and many == 2 and all_names(rest):
        return ("turn", rest[0], rest[1])
    raise NoForm("a row has none of the desk's forms")


def all_numbers(words):
    return all([is_number(word) for word in words])


def all_names(words):
    return all([is_name(word) for word in words])
