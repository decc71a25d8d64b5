"""What several tests need: terms, programs made by numbers, and tables reckoned by all rows of choices."""

import random
from fractions import Fraction
from itertools import product
from math import prod

from flipwright.errors import FlipError
from flipwright.opening import Opened, opened
from flipwright.reader import read
from flipwright.running import Listed, counted, run, told
from flipwright.tables import rank
from flipwright.words import words_of
from flipwright.writer import shown

SIGNS = ["+", "-", "*", "=", "<"]
FIELDS = ["a", "bb", "let", "zzzzzzzz"]
LETS = ["x", "y", "ask", "def"]
HELPERS = ["f", "g", "see"]
HALF = [(0, 1), (1, 1)]
THIRD = [(0, 2), (1, 1)]
THREE = [(7, 1), (8, 2), (9, 3)]
A1 = (("a", 1),)
AB = (("a", 1), ("b", 5))


def evenly(many):
    return [(number, 1) for number in range(many)]


def num(number):
    return ("num", number)


def slot(number):
    return ("slot", number)


def draw(number):
    return ("draw", number)


def op(sign, one, other):
    return ("op", sign, one, other)


def bind(number, term, inner):
    return ("bind", number, term, inner)


def opened_text(*rows):
    return opened(read("\n".join(rows)))


class Maker:
    def __init__(self, seed):
        self.chance = random.Random(seed)
        self.helpers = {}

    def some(self, least, most):
        return self.chance.randint(least, most)

    def one_of(self, things):
        return self.chance.choice(things)

    def unlike(self, things, least, most):
        return self.chance.sample(things, self.some(least, most))

    def weighed_numbers(self):
        return [(number, self.some(1, 5)) for number in self.unlike(range(9), 1, 6)]

    def leaf(self, names):
        kind = self.one_of(["num", "name", "flip", "pick"])
        if kind == "name" and names:
            return ("name", self.one_of(names))
        if kind == "flip":
            top = self.some(1, 9)
            return ("flip", top, top + self.some(1, 9))
        if kind == "pick":
            return ("pick", tuple(self.weighed_numbers()))
        return ("num", self.one_of([0, 1, 2, 999999999999]))

    def term(self, names, depth):
        if depth == 1:
            return self.leaf(names)
        kind = self.one_of(["leaf", "if", "op", "op", "op", "rest", "record", "field", "call"])
        if kind == "if":
            return ("if", self.term(names, depth - 1), self.term(names, depth - 1), self.term(names, depth - 1))
        if kind == "op":
            return ("op", self.one_of(SIGNS), self.term(names, depth - 1), self.term(names, depth - 1))
        if kind == "rest":
            return ("rest", self.term(names, depth - 1), self.some(1, 7))
        if kind == "record":
            fields = self.unlike(FIELDS, 1, 4)
            return ("record", tuple((field, self.term(names, depth - 1)) for field in fields))
        if kind == "field":
            return ("field", self.term(names, depth - 1), self.one_of(FIELDS))
        if kind == "call" and self.helpers:
            name = self.one_of(sorted(self.helpers))
            return ("call", name, tuple(self.term(names, depth - 1) for each in range(self.helpers[name])))
        return self.leaf(names)

    def program(self, depth):
        rows = []
        for name in self.unlike(HELPERS, 0, 3):
            names = tuple(self.unlike(LETS, 0, 3))
            rows.append(("def", name, names, self.term(names, depth)))
            self.helpers[name] = len(names)
        lets = []
        for each in range(self.some(0, 4)):
            kind = self.one_of(["let", "again", "see"])
            if kind == "see":
                rows.append(("see", self.term(lets, depth)))
            elif kind == "again" and lets:
                rows.append(("again", self.some(0, 3), self.one_of(lets), self.term(lets, depth)))
            else:
                name = self.one_of(LETS)
                rows.append(("let", name, self.term(lets, depth)))
                if name not in lets:
                    lets.append(name)
        return rows + [("ask", self.term(lets, depth))]


def fits(program):
    return all(len(words_of(row)) <= 60 for row in shown(program).split("\n"))


def made_programs(many, depth):
    programs = [Maker(seed).program(depth) for seed in range(many)]
    return [program for program in programs if fits(program)]


def width(draws):
    return prod(len(draw) for draw in draws)


def opens(program):
    try:
        opened(program)
    except FlipError:
        return False
    return True


class OpenedMaker(Maker):
    """Opened programs such as no text opens to: steps have even slots, binds odd ones, some draws stand nowhere."""

    def __init__(self, seed):
        Maker.__init__(self, seed)
        self.draws = []

    def new_draw(self):
        for each in range(self.one_of([1, 1, 1, 2])):
            self.draws.append(self.weighed_numbers()[:self.one_of([2, 2, 3, 6])])
        return draw(len(self.draws) - 1)

    def leaf(self, names):
        kind = self.one_of(["num", "slot", "slot", "draw"])
        if kind == "slot" and names:
            return slot(self.one_of(names))
        if kind == "draw" and len(self.draws) < 5:
            return self.new_draw()
        return num(self.one_of([0, 1, 2, 999999999999]))

    def term(self, names, depth):
        if depth > 1 and self.some(1, 4) == 1:
            number = 2 * self.some(0, 4) + 1
            return bind(number, self.term(names, depth - 1), self.term(names + [number], depth - 1))
        return Maker.term(self, names, depth)

    def opened(self, depth):
        steps, slots, number = [], [], 0
        for each in range(self.some(0, 4)):
            if self.some(1, 3) == 1:
                steps.append((-1, self.term(slots, depth)))
            else:
                steps.append((number, self.term(slots, depth)))
                slots.append(number)
                number += self.one_of([2, 2, 6])
        steps.append((number, self.term(slots, depth)))
        return Opened(steps, self.draws, number + 10)


def made_opened(many, depth, most_rows):
    """Opened programs, read ones and others, whose draws have at most so many rows of choices."""
    ones = [opened(program) for program in made_programs(many, depth) if opens(program)]
    ones += [OpenedMaker(seed).opened(depth) for seed in range(many)]
    return [one for one in ones if width(one.draws) <= most_rows]


def rows_of_choices(draws):
    return [list(row) for row in product(*[range(len(draw)) for draw in draws])]


def row_share(draws, row):
    return prod((Fraction(draw[index][1], sum(weight for number, weight in draw)) for draw, index in zip(draws, row)),
                start=Fraction(1))


def as_table(shares):
    """A table of a dict from outcomes to shares as Python's own fractions."""
    ordered = sorted(shares, key=rank)
    return [(outcome, (shares[outcome].numerator, shares[outcome].denominator)) for outcome in ordered]


def table_by_rows(one):
    """The program's table by runs with every row of choices; [] where no run has all that is seen."""
    shares = {}
    for row in rows_of_choices(one.draws):
        outcome = run(one, Listed(row))
        if outcome is not None:
            shares[outcome] = shares.get(outcome, 0) + row_share(one.draws, row)
    whole = sum(shares.values())
    return as_table({outcome: share / whole for outcome, share in shares.items()})


def runs_by_rows(one):
    """A pair (what each step's slot holds, share) for every row of choices with which all that is seen is so."""
    found = []
    for row in rows_of_choices(one.draws):
        held = {}
        for number, term in one.steps:
            value = told(term, held, one.draws, Listed(row))
            if number != -1:
                held[number] = value
            elif counted(value) == 0:
                break
        else:
            found.append((held, row_share(one.draws, row)))
    return found


def answer(teller, one):
    """What a teller tells of a program, or which refusal comes of it."""
    try:
        return teller(one)
    except FlipError as refusal:
        return type(refusal)


def shape(one):
    """All that an opened program holds, to see whether something has changed it."""
    return repr((one.steps, one.draws, one.slots))


def beneath(outcomes, widths):
    """All that the beginnings of a row of choices leave of what leads to these outcomes at every row, in order.

    Each is told as the tuple of its outcomes at every row, so that two are equal where they lead alike.
    """
    found = set()
    for fixed in range(len(widths) + 1):
        many = prod(widths[fixed:])
        for start in range(0, len(outcomes), many):
            found.add(tuple(outcomes[start:start + many]) * (len(outcomes) // many))
    return found


def led(parts, place, row):
    """To which outcome a row of choices leads in a list of parts, from the part of this place."""
    part = parts[place]
    while part[0] == "ask":
        part = parts[part[2][row[part[1]]]]
    return part[1]


def made_lists(seed):
    """Parts and draws by chance: alike parts, needless questions and parts beneath no other among them."""
    chance = random.Random(seed)
    draws = [[(number, chance.randint(1, 9)) for number in range(chance.choice([1, 2, 2, 3, 6]))] for each in range(4)]
    parts = [("leaf", chance.choice([None, 0, 1, 5, A1])) for each in range(3)]
    for each in range(12):
        site = chance.randrange(4)
        fitting = [place for place, part in enumerate(parts) if part[0] == "leaf" or part[1] > site]
        parts.append(("ask", site, chance.choices(fitting, k=len(draws[site]))))
        if chance.randrange(4) == 0:
            parts.append(("leaf", chance.choice([None, 0, 2, AB])))
    return parts, draws


def empty(parts, draws):
    """Takes all out of lists that were handed in, to see whether what was told hangs on them."""
    for part in parts:
        if part[0] == "ask":
            part[2].clear()
    for each in draws:
        each.clear()
    parts.clear()
    draws.clear()
