"""Names, numbers and expressions, and what an expression is worth."""

from blockfall.errors import NoRow

LETTERS = "abcdefghijklmnopqrstuvwxyz"
FIGURES = "0123456789"
TAKEN_WORDS = ("box", "block", "put", "say", "ask", "go", "if", "else", "table", "stop")
STATEMENTS = ("put", "say", "ask")
LONGEST_NAME = 8
LONGEST_NUMBER = 3
LONGEST_EXPRESSION = 60
DEEPEST_BRACKET = 5


def is_name(word):
    if len(word) < 1 or len(word) > LONGEST_NAME:
        return False
    return all([sign in LETTERS for sign in word]) and word not in TAKEN_WORDS


def is_number(word):
    if len(word) < 1 or len(word) > LONGEST_NUMBER:
        return False
    if word[0] == "0" and word != "0":
        return False
    return all([sign in FIGURES for sign in word])


class Signs:
    def __init__(self, word):
        self.word = word
        self.place = 0

    def is_done(self):
        return self.place == len(self.word)

    def stands_one_of(self, wanted):
        return not self.is_done() and self.word[self.place] in wanted

    def take_sign(self):
        sign = self.word[self.place]
        self.place += 1
        return sign

    def run_of(self, wanted):
        begin = self.place
        while self.stands_one_of(wanted):
            self.place += 1
        return self.word[begin:self.place]


def expression(word):
    # The length is asked first, so that no word, however long, is walked or turned into a number.
    if len(word) > LONGEST_EXPRESSION:
        raise NoRow("an expression has at most 60 signs")
    signs = Signs(word)
    e = read_terms(signs, 0)
    if not signs.is_done():
        raise NoRow("an expression ends ahead of its word's end")
    return e


def read_terms(signs, depth):
    e = read_factors(signs, depth)
    while signs.stands_one_of("+-"):
        sign = signs.take_sign()
        e = (sign, e, read_factors(signs, depth))
    return e


def read_factors(signs, depth):
    e = read_factor(signs, depth)
    while signs.stands_one_of("*"):
        sign = signs.take_sign()
        e = (sign, e, read_factor(signs, depth))
    return e


def read_factor(signs, depth):
    if signs.stands_one_of("("):
        return read_bracket(signs, depth + 1)
    # Letters and figures are taken together: a number beside a name is one faulty factor.
    factor = signs.run_of(LETTERS + FIGURES)
    if is_name(factor):
        return ("box", factor)
    if is_number(factor):
        return ("number", int(factor))
    raise NoRow("a factor is a number, a name or an expression in brackets")


def read_bracket(signs, depth):
    if depth > DEEPEST_BRACKET:
        raise NoRow("at most 5 brackets stand within one another")
    signs.take_sign()
    e = read_terms(signs, depth)
    if not signs.stands_one_of(")"):
        raise NoRow("a bracket is not closed")
    signs.take_sign()
    return e


def names_in(e):
    if e[0] == "number":
        return []
    if e[0] == "box":
        return [e[1]]
    return names_in(e[1]) + names_in(e[2])


def worth(e, values):
    if e[0] == "number":
        return e[1]
    if e[0] == "box":
        return values[e[1]]
    left = worth(e[1], values)
    right = worth(e[2], values)
    if e[0] == "+":
        return left + right
    if e[0] == "-":
        return left - right
    return left * right
