"""Opened programs: rounds told one by one, calls put in, draws and names numbered."""

from flipwright.errors import NoName, TooMuch

MOST_DEFS = 3
MOST_DRAWS = 60
MOST_SIZE = 600


class Opened:
    def __init__(self, steps, draws, slots):
        self.steps = list(steps)
        self.draws = [list(draw) for draw in draws]
        self.slots = slots


def parts_of(term):
    kind = term[0]
    if kind == "if":
        return [term[1], term[2], term[3]]
    if kind in ("op", "bind"):
        return [term[2], term[3]]
    if kind in ("rest", "field"):
        return [term[1]]
    if kind == "record":
        return [part for name, part in term[1]]
    if kind == "call":
        return list(term[2])
    return []


# All terms of the steps, those within others too, in no told order.
def terms_in(one):
    found = []
    waiting = [term for slot, term in one.steps]
    while len(waiting) > 0:
        term = waiting.pop()
        waiting.extend(parts_of(term))
        found.append(term)
    return found


def size(one):
    return len(terms_in(one))


def bound_of(term, draws):
    kind = term[0]
    if kind == "draw":
        return len(draws[term[1]])
    if kind == "if":
        return bound_of(term[1], draws) * max(bound_of(term[2], draws), bound_of(term[3], draws))
    whole = 1
    for part in parts_of(term):
        whole *= bound_of(part, draws)
    return whole


def bound(one):
    whole = 1
    for slot, term in one.steps:
        whole *= bound_of(term, one.draws)
    return whole


def check_term(row, term, names, helpers):
    kind = term[0]
    if kind == "name" and term[1] not in names:
        raise NoName(row)
    if kind == "call" and helpers.get(term[1]) != len(term[2]):
        raise NoName(row)
    for part in parts_of(term):
        check_term(row, part, names, helpers)


# All rows are looked at ahead of opening any, since NoName goes ahead of TooMuch.
def check_names(program):
    names = {}
    helpers = {}
    for number, row in enumerate(program):
        kind = row[0]
        if kind == "def":
            if row[1] in helpers:
                raise NoName(number)
            check_term(number, row[3], row[2], helpers)
            helpers[row[1]] = len(row[2])
        else:
            if kind == "again" and row[2] not in names:
                raise NoName(number)
            check_term(number, row[-1], names, helpers)
            if kind == "let":
                names[row[1]] = True


def check_defs(program):
    if len([row for row in program if row[0] == "def"]) > MOST_DEFS:
        raise TooMuch("a program has at most 3 defs")


def draw_of(term):
    if term[0] == "flip":
        return [(0, term[2] - term[1]), (1, term[1])]
    return list(term[1])


def with_parts(term, parts):
    kind = term[0]
    if kind == "if":
        return ("if", parts[0], parts[1], parts[2])
    if kind == "op":
        return ("op", term[1], parts[0], parts[1])
    if kind == "record":
        return ("record", tuple([(field[0], part) for field, part in zip(term[1], parts)]))
    return (kind, parts[0], term[2])


class Opener:
    def __init__(self):
        self.helpers = {}
        self.names = {}
        self.steps = []
        self.draws = []
        self.slots = 0
        self.terms = 0

    # Terms and draws are counted as they are made: helpers of helpers can make far more of them than may be kept.
    def count_term(self):
        self.terms += 1
        if self.terms > MOST_SIZE:
            raise TooMuch("a program's size is at most 600")

    def new_slot(self):
        self.slots += 1
        return self.slots - 1

    def new_draw(self, draw):
        self.draws.append(draw)
        if len(self.draws) > MOST_DRAWS:
            raise TooMuch("a program has at most 60 draws")
        return len(self.draws) - 1

    def open_term(self, term, names):
        kind = term[0]
        if kind == "call":
            return self.open_call(term, names)
        self.count_term()
        if kind == "num":
            return term
        if kind == "name":
            return ("slot", names[term[1]])
        if kind in ("flip", "pick"):
            return ("draw", self.new_draw(draw_of(term)))
        parts = []
        for part in parts_of(term):
            parts.append(self.open_term(part, names))
        return with_parts(term, parts)

    def open_call(self, term, names):
        helper = self.helpers[term[1]]
        own_names = {}
        binds = []
        for name, part in zip(helper[2], term[2]):
            self.count_term()
            inner = self.open_term(part, names)
            own_names[name] = self.new_slot()
            binds.append((own_names[name], inner))
        whole = self.open_term(helper[3], own_names)
        for slot, inner in reversed(binds):
            whole = ("bind", slot, inner, whole)
        return whole

    def open_let(self, name, term):
        inner = self.open_term(term, self.names)
        self.names[name] = self.new_slot()
        self.steps.append((self.names[name], inner))

    def open_row(self, row):
        kind = row[0]
        if kind == "def":
            self.helpers[row[1]] = row
        elif kind == "let":
            self.open_let(row[1], row[2])
        elif kind == "again":
            for turn in range(row[1]):
                self.open_let(row[2], row[3])
        elif kind == "see":
            self.steps.append((-1, self.open_term(row[1], self.names)))
        else:
            inner = self.open_term(row[1], self.names)
            self.steps.append((self.new_slot(), inner))


def opened(program):
    check_names(program)
    check_defs(program)
    opener = Opener()
    for row in program:
        opener.open_row(row)
    return Opened(opener.steps, opener.draws, opener.slots)
