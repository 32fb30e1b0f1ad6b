"""What several tests make their programs of, and how they look at rows."""

import random

# Python of the same meaning, by words.
SIGNS = {"add": "({} + {}) % 10007", "take": "({} - {}) % 10007", "times": "{} * {} % 10007", "over": "{} // {}",
         "rest": "{} % {}", "less": "int({} < {})", "same": "int({} == {})", "not": "int({} == 0)",
         "get": "cells[{}]", "and": "int({} != 0 and {} != 0)", "or": "int({} != 0 or {} != 0)"}


class Made:
    """Programs made at random, always the same ones of the same seed."""

    NAMES = 4

    def __init__(self, seed):
        self.chance = random.Random(seed)

    def part(self, deep):
        if deep == 0 or self.chance.random() < 0.2:
            if self.chance.random() < 0.5:
                return ("name", self.chance.randrange(self.NAMES))
            return ("num", self.chance.choice((0, 0, 1, 2, 3, 15, 16, 200, 10006)))
        word = self.chance.choice(("add", "take", "times", "over", "rest", "less", "same", "and", "or", "not", "get",
                                   "pick"))
        many = {"not": 1, "get": 1, "pick": 3}.get(word, 2)
        return (word, *[self.part(deep - 1) for _ in range(many)])

    def deed(self, deep):
        word = self.chance.choice(("set", "set", "put", "say", "say", "if", "while", "stop"))
        if deep == 0 and word in ("if", "while"):
            word = "say"
        if word == "stop" and self.chance.random() < 0.7:
            word = "say"
        part = self.part(2)
        if word == "set":
            return ("set", self.chance.randrange(self.NAMES), part)
        if word == "put":
            return ("put", self.part(1), part)
        if word == "if":
            return ("if", part, self.body(deep - 1), self.body(deep - 1))
        if word == "while":
            return ("while", part, self.body(deep - 1))
        return (word, part)

    def body(self, deep):
        return tuple([self.deed(deep) for _ in range(self.chance.randrange(4))])


class MadeRows:
    """Tested programs made at random, always the same ones of the same seed; tests counts 0, too."""

    def __init__(self, seed, registers=5, tests=5):
        self.chance = random.Random(seed)
        self.registers = registers
        self.tests = tests

    def register(self):
        return self.chance.randrange(self.registers)

    def row(self):
        word = self.chance.choice(("num", "num", "copy", "not", "get", "get", "add", "take", "times", "over", "rest",
                                   "less", "same", "put", "put", "say", "say", "stop", "test", "test", "test"))
        test = self.chance.choice((0, *range(self.tests)))
        if word == "num":
            return (test, word, self.register(), self.chance.choice((0, 1, 15, 16, 10006)))
        if word == "test":
            return (test, word, *self.chance.sample(range(1, self.tests), 2), self.register())
        many = {"say": 1, "stop": 1, "copy": 2, "not": 2, "get": 2, "put": 2}.get(word, 3)
        return (test, word, *[self.register() for _ in range(many)])

    def rows(self, most):
        return tuple([self.row() for _ in range(self.chance.randrange(most + 1))])

    def tested(self, most_rows=8):
        many = self.chance.randrange(1, 5)
        pieces = []
        for _ in range(many):
            rows = self.rows(most_rows)
            tests = [self.chance.randrange(self.tests) for _ in range(self.chance.randrange(3))] + [0]
            pieces.append((rows, tuple([(test, self.chance.randrange(-1, many)) for test in tests])))
        ins = self.chance.randrange(4)
        return (ins, self.chance.randrange(ins, 6), tuple(pieces))

    def one_piece(self, most_rows=8):
        """One all of whose goes are -1."""
        goes = tuple([(self.chance.randrange(self.tests), -1) for _ in range(self.chance.randrange(3))]) + ((0, -1),)
        ins = self.chance.randrange(4)
        return (ins, self.chance.randrange(ins, 6), ((self.rows(most_rows), goes),))

    def handed(self, ins):
        return [self.chance.choice((0, 1, 2, 15, 16, 10006)) for _ in range(ins)]


def comes_from(rows):
    """All (test, one from which it comes), by point [10]."""
    made = [(at, test) for at, row in enumerate(rows) if row[1] == "test" for test in row[2:4]]
    alone = {test: at for at, test in made if len([1 for _, other in made if other == test]) == 1}
    pairs = {(test, rows[at][0]) for test, at in alone.items()}
    while True:
        more = {(one, other) for one, mid in pairs for middle, other in pairs if mid == middle}
        if more <= pairs:
            return pairs, alone
        pairs |= more


def reads(row):
    word = row[1]
    if word == "num":
        return ()
    if word in ("put", "say", "stop"):
        return row[2:]
    return row[4:] if word == "test" else row[3:]


def writes(row):
    return () if row[1] in ("put", "say", "stop", "test") else row[2:3]
