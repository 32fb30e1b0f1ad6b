"""What several tests make their programs of."""

import random

# Python of the same meaning, by words.
SIGNS = {"add": "({} + {}) % 10007", "take": "({} - {}) % 10007", "times": "{} * {} % 10007", "over": "{} // {}",
         "rest": "{} % {}", "less": "int({} < {})", "same": "int({} == {})", "not": "int({} == 0)",
         "get": "cells[{}]", "and": "int({} != 0 and {} != 0)", "or": "int({} != 0 or {} != 0)"}


class Made:
    """Programs made at random, always the same ones of the same seed."""

    NAMES = 4

    def __init__(self, seed):
        self.chance = random.Random(seed)

    def part(self, deep):
        if deep == 0 or self.chance.random() < 0.2:
            if self.chance.random() < 0.5:
                return ("name", self.chance.randrange(self.NAMES))
            return ("num", self.chance.choice((0, 0, 1, 2, 3, 15, 16, 200, 10006)))
        word = self.chance.choice(("add", "take", "times", "over", "rest", "less", "same", "and", "or", "not", "get",
                                   "pick"))
        many = {"not": 1, "get": 1, "pick": 3}.get(word, 2)
        return (word, *[self.part(deep - 1) for _ in range(many)])

    def deed(self, deep):
        word = self.chance.choice(("set", "set", "put", "say", "say", "if", "while", "stop"))
        if deep == 0 and word in ("if", "while"):
            word = "say"
        if word == "stop" and self.chance.random() < 0.7:
            word = "say"
        part = self.part(2)
        if word == "set":
            return ("set", self.chance.randrange(self.NAMES), part)
        if word == "put":
            return ("put", self.part(1), part)
        if word == "if":
            return ("if", part, self.body(deep - 1), self.body(deep - 1))
        if word == "while":
            return ("while", part, self.body(deep - 1))
        return (word, part)

    def body(self, deep):
        return tuple([self.deed(deep) for _ in range(self.chance.randrange(4))])
