"""What runs of blocks and runs of laid rows do alike: statements, conditions and tables' choices."""

from blockfall.words import worth

BOX_RANGE = 1000000


class Doing:
    def __init__(self, boxes, numbers):
        self.held = dict(boxes)
        self.numbers = list(numbers)
        self.taken = 0
        self.said = []

    def lacks_number(self, row):
        return row[0] == "ask" and self.taken == len(self.numbers)

    def do_statement(self, statement):
        if statement[0] == "put":
            self.held[statement[1]] = worth(statement[2], self.held) % BOX_RANGE
        elif statement[0] == "say":
            self.said.append(worth(statement[1], self.held))
        else:
            self.held[statement[1]] = self.numbers[self.taken] % BOX_RANGE
            self.taken += 1

    def holds(self, sign, left, right):
        if sign == "<":
            return worth(left, self.held) < worth(right, self.held)
        return worth(left, self.held) == worth(right, self.held)

    def chosen(self, e, many):
        return worth(e, self.held) % many
