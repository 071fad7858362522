"""A program's text read into a program, or refused."""

from blockfall.errors import Full, NoBlock, NoBox, NoPlace, NoRow, Open, TooLong, Twice
from blockfall.words import STATEMENTS, expression, is_name, is_number, names_in

MOST_ROWS = 120
MOST_BOXES = 4
MOST_BLOCKS = 10
MOST_STATEMENTS = 8
MOST_IN_TABLE = 6
CONDITION_SIGNS = ("<", "=")


def read(text):
    rows = text.split("\n")
    if len(rows) > MOST_ROWS:
        raise TooLong("a program has at most 120 rows")
    reading = Reading()
    for row in rows:
        reading.take(form_of(row))
    return reading.told_program()


def form_of(row):
    # What comes back names blocks by their names: blocks of later rows have no places yet.
    words = row.split(" ")
    head = words[0]
    many = len(words)
    if head == "box" and many == 3:
        return ("box", name_of(words[1]), number_of(words[2]))
    if head == "block" and many == 2:
        return ("block", name_of(words[1]))
    if head == "put" and many == 3:
        return ("put", name_of(words[1]), expression(words[2]))
    if head == "say" and many == 2:
        return ("say", expression(words[1]))
    if head == "ask" and many == 2:
        return ("ask", name_of(words[1]))
    if head == "go" and many == 2:
        return ("go", name_of(words[1]))
    if head == "if" and many == 7:
        return condition_of(words)
    if head == "table" and 3 <= many <= 2 + MOST_IN_TABLE:
        return ("table", expression(words[1]), tuple([name_of(word) for word in words[2:]]))
    if head == "stop" and many == 1:
        return ("stop",)
    raise NoRow("a row has none of the forms")


def condition_of(words):
    sign = words[2]
    if sign not in CONDITION_SIGNS or words[5] != "else":
        raise NoRow("an if is written: if E < E X else Y, or with =")
    left = expression(words[1])
    right = expression(words[3])
    return ("if", sign, left, right, name_of(words[4]), name_of(words[6]))


def name_of(word):
    if not is_name(word):
        raise NoRow("a name is of 1 to 8 small letters, and no word of the rows' own")
    return word


def number_of(word):
    if not is_number(word):
        raise NoRow("a number is of 1 to 3 figures, without noughts ahead")
    return int(word)


class Reading:
    def __init__(self):
        self.boxes = []
        self.block_names = []
        self.ended_blocks = []
        self.statements = []

    def in_block(self):
        return len(self.block_names) > len(self.ended_blocks)

    def take(self, form):
        # The checks stand in the order in which refusals of one row are due.
        self.check_place(form[0])
        self.check_twice(form)
        self.check_room(form[0])
        self.check_boxes(form)
        self.put_down(form)

    def check_place(self, head):
        if head == "box":
            if len(self.block_names) > 0:
                raise NoPlace("a box stands behind a block")
        elif head == "block":
            if self.in_block():
                raise NoPlace("a block begins within a block")
        elif not self.in_block():
            raise NoPlace("a statement or an end stands outside of a block")

    def check_twice(self, form):
        if form[0] == "box" and form[1] in self.box_names():
            raise Twice("two boxes have one name")
        if form[0] == "block" and form[1] in self.block_names:
            raise Twice("two blocks have one name")

    def check_room(self, head):
        if head == "box" and len(self.boxes) == MOST_BOXES:
            raise Full("a program has at most 4 boxes")
        if head == "block" and len(self.block_names) == MOST_BLOCKS:
            raise Full("a program has at most 10 blocks")
        if head in STATEMENTS and len(self.statements) == MOST_STATEMENTS:
            raise Full("a block has at most 8 statements")

    def check_boxes(self, form):
        known = self.box_names()
        for name in boxes_named(form):
            if name not in known:
                raise NoBox(f"there is no box {name}")

    def put_down(self, form):
        if form[0] == "box":
            self.boxes.append((form[1], form[2]))
        elif form[0] == "block":
            self.block_names.append(form[1])
            self.statements = []
        elif form[0] in STATEMENTS:
            self.statements.append(form)
        else:
            self.ended_blocks.append((self.block_names[-1], self.statements, form))

    def box_names(self):
        return [name for name, first in self.boxes]

    def told_program(self):
        if self.in_block() or len(self.block_names) == 0:
            raise Open("the last block has no end, or there is no block")
        blocks = []
        for name, statements, end in self.ended_blocks:
            blocks.append((name, statements, end_by_places(end, self.block_names)))
        return (self.boxes, blocks)


def boxes_named(form):
    if form[0] == "put":
        return [form[1]] + names_in(form[2])
    if form[0] == "say":
        return names_in(form[1])
    if form[0] == "ask":
        return [form[1]]
    if form[0] == "if":
        return names_in(form[2]) + names_in(form[3])
    if form[0] == "table":
        return names_in(form[1])
    return []


def end_by_places(end, block_names):
    if end[0] == "go":
        return ("go", place_of(end[1], block_names))
    if end[0] == "if":
        return end[:4] + (place_of(end[4], block_names), place_of(end[5], block_names))
    if end[0] == "table":
        return ("table", end[1], tuple([place_of(name, block_names) for name in end[2]]))
    return end


def place_of(name, block_names):
    if name not in block_names:
        raise NoBlock(f"there is no block {name}")
    return block_names.index(name)
