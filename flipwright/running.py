"""What a term tells once its draws are chosen, and a run of an opened program."""

from flipwright.opening import parts_of

# 10 ** 12: sums, differences and products are told as rests by it.
ROUND = 1000000000000


class Hand:
    def __init__(self):
        self.taken = []

    # Other hands tell another index here, so that take keeps for all of them what was taken.
    def index_at(self, site, draw):
        return 0

    def take(self, site, draw):
        index = self.index_at(site, draw)
        self.taken.append((site, index))
        return index


class Listed(Hand):
    def __init__(self, choices):
        Hand.__init__(self)
        self.choices = list(choices)

    def index_at(self, site, draw):
        return self.choices[site]


def counted(outcome):
    if isinstance(outcome, int):
        return outcome
    return 0


def figured_op(sign, one, other):
    if sign == "=":
        return 1 if one == other else 0
    first = counted(one)
    second = counted(other)
    if sign == "<":
        return 1 if first < second else 0
    if sign == "+":
        return (first + second) % ROUND
    if sign == "-":
        return (first - second) % ROUND
    return first * second % ROUND


def field_of(value, name):
    if isinstance(value, tuple):
        for field, number in value:
            if field == name:
                return number
    return 0


def figured(term, values):
    kind = term[0]
    if kind == "op":
        return figured_op(term[1], values[0], values[1])
    if kind == "rest":
        return counted(values[0]) % term[2]
    if kind == "field":
        return field_of(values[0], term[2])
    return tuple(sorted([(field[0], counted(value)) for field, value in zip(term[1], values)]))


def told(term, held, draws, hand):
    kind = term[0]
    if kind == "num":
        return term[1]
    if kind == "slot":
        return held[term[1]]
    if kind == "draw":
        draw = draws[term[1]]
        # A copy: the list that a hand is asked with is its own.
        return draw[hand.take(term[1], list(draw))][0]
    if kind == "if":
        way = 2 if counted(told(term[1], held, draws, hand)) != 0 else 3
        return told(term[way], held, draws, hand)
    if kind == "bind":
        # A copy too: held is the asker's, and the slot is bound within the inner part alone.
        inner_held = dict(held)
        inner_held[term[1]] = told(term[2], held, draws, hand)
        return told(term[3], inner_held, draws, hand)
    values = []
    for part in parts_of(term):
        values.append(told(part, held, draws, hand))
    return figured(term, values)


def run(one, hand):
    held = {}
    value = None
    for slot, term in one.steps:
        value = told(term, held, one.draws, hand)
        if slot != -1:
            held[slot] = value
        elif counted(value) == 0:
            return None
    return value
