"""What several tests need: terms, and programs made by numbers, each such as can be read and without wrong names."""

import random

from flipwright.opening import opened
from flipwright.reader import read
from flipwright.words import words_of
from flipwright.writer import shown

SIGNS = ["+", "-", "*", "=", "<"]
FIELDS = ["a", "bb", "let", "zzzzzzzz"]
LETS = ["x", "y", "ask", "def"]
HELPERS = ["f", "g", "see"]
HALF = [(0, 1), (1, 1)]


def num(number):
    return ("num", number)


def slot(number):
    return ("slot", number)


def draw(number):
    return ("draw", number)


def op(sign, one, other):
    return ("op", sign, one, other)


def bind(number, term, inner):
    return ("bind", number, term, inner)


def opened_text(*rows):
    return opened(read("\n".join(rows)))


class Maker:
    def __init__(self, seed):
        self.chance = random.Random(seed)
        self.helpers = {}

    def some(self, least, most):
        return self.chance.randint(least, most)

    def one_of(self, things):
        return self.chance.choice(things)

    def unlike(self, things, least, most):
        return self.chance.sample(things, self.some(least, most))

    def leaf(self, names):
        kind = self.one_of(["num", "name", "flip", "pick"])
        if kind == "name" and names:
            return ("name", self.one_of(names))
        if kind == "flip":
            top = self.some(1, 9)
            return ("flip", top, top + self.some(1, 9))
        if kind == "pick":
            return ("pick", tuple((number, self.some(1, 5)) for number in self.unlike(range(9), 1, 6)))
        return ("num", self.one_of([0, 1, 2, 999999999999]))

    def term(self, names, depth):
        if depth == 1:
            return self.leaf(names)
        kind = self.one_of(["leaf", "if", "op", "op", "op", "rest", "record", "field", "call"])
        if kind == "if":
            return ("if", self.term(names, depth - 1), self.term(names, depth - 1), self.term(names, depth - 1))
        if kind == "op":
            return ("op", self.one_of(SIGNS), self.term(names, depth - 1), self.term(names, depth - 1))
        if kind == "rest":
            return ("rest", self.term(names, depth - 1), self.some(1, 7))
        if kind == "record":
            fields = self.unlike(FIELDS, 1, 4)
            return ("record", tuple((field, self.term(names, depth - 1)) for field in fields))
        if kind == "field":
            return ("field", self.term(names, depth - 1), self.one_of(FIELDS))
        if kind == "call" and self.helpers:
            name = self.one_of(sorted(self.helpers))
            return ("call", name, tuple(self.term(names, depth - 1) for each in range(self.helpers[name])))
        return self.leaf(names)

    def program(self, depth):
        rows = []
        for name in self.unlike(HELPERS, 0, 3):
            names = tuple(self.unlike(LETS, 0, 3))
            rows.append(("def", name, names, self.term(names, depth)))
            self.helpers[name] = len(names)
        lets = []
        for each in range(self.some(0, 4)):
            kind = self.one_of(["let", "again", "see"])
            if kind == "see":
                rows.append(("see", self.term(lets, depth)))
            elif kind == "again" and lets:
                rows.append(("again", self.some(0, 3), self.one_of(lets), self.term(lets, depth)))
            else:
                name = self.one_of(LETS)
                rows.append(("let", name, self.term(lets, depth)))
                if name not in lets:
                    lets.append(name)
        return rows + [("ask", self.term(lets, depth))]


def fits(program):
    return all(len(words_of(row)) <= 60 for row in shown(program).split("\n"))


def made_programs(many, depth):
    programs = [Maker(seed).program(depth) for seed in range(many)]
    return [program for program in programs if fits(program)]
