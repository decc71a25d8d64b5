"""The desk: keeps programs by names, is told texts and answers each with a text."""

from flipwright.apart import left_table
from flipwright.bags import cost
from flipwright.drawing import Drawer
from flipwright.errors import NoName, NoRow
from flipwright.leaning import left
from flipwright.likely import likeliest
from flipwright.messages import bags_table
from flipwright.opening import opened, terms_in
from flipwright.plain import plain_table
from flipwright.reader import is_small, read
from flipwright.weighing import graph_table

# How many words the first row of each kind has.
WORDS = {"keep": 2, "drop": 2, "table": 3, "likely": 2, "draw": 3, "count": 2, "left": 2, "cost": 2}
WAYS = ("plain", "graph", "bags", "left")
MOST_FIGURES = 500


def is_figures(word):
    figures = all(["0" <= sign <= "9" for sign in word])
    return figures and 1 <= len(word) <= MOST_FIGURES and (word == "0" or word[0] != "0")


def is_row(words, has_feed):
    kind = words[0]
    if WORDS.get(kind) != len(words) or has_feed != (kind == "keep"):
        return False
    if kind == "table":
        return words[2] in WAYS
    if kind == "draw":
        return is_figures(words[2])
    return True


def told_table(way, one):
    if way == "plain":
        return plain_table(one)
    if way == "graph":
        return graph_table(one)
    if way == "bags":
        return bags_table(one)
    return left_table(one)


def shown_value(value):
    if isinstance(value, int):
        return str(value)
    return "{" + ",".join([f"{field}={number}" for field, number in value]) + "}"


def shown_share(share):
    top = share[0]
    bottom = share[1]
    return str(top) if bottom == 1 else f"{top}/{bottom}"


def shown_table(pairs):
    return " ".join([shown_value(value) + ":" + shown_share(share) for value, share in pairs])


def shown_likeliest(choices, share):
    return "".join([f"{index} " for index in choices]) + shown_share(share)


def shown_left(one):
    steps = len(one.steps)
    draws = len([term for term in terms_in(one) if term[0] == "draw"])
    return f"{steps} {draws}"


def answered(words, one):
    kind = words[0]
    if kind == "table":
        return shown_table(told_table(words[2], one))
    if kind == "likely":
        told = likeliest(one)
        return shown_likeliest(told[0], told[1])
    if kind == "draw":
        return shown_value(Drawer(one).drawn(int(words[2]))[1])
    if kind == "count":
        return str(Drawer(one).many)
    if kind == "left":
        return shown_left(left(one))
    return str(cost(one))


class Desk:
    def __init__(self):
        self.programs = {}

    def say(self, text):
        if not isinstance(text, str):
            raise NoRow("a desk is told texts")
        parts = text.partition("\n")
        words = parts[0].split(" ")
        if not is_row(words, parts[1] != ""):
            raise NoRow("this is none of the texts that a desk knows")
        name = words[1]
        if words[0] == "keep":
            return self.keep(name, parts[2])
        if name not in self.programs:
            raise NoName(-1)
        if words[0] == "drop":
            self.programs.pop(name)
            return "ok"
        return answered(words, self.programs[name])

    def keep(self, name, text):
        if not is_small(name):
            raise NoName(-1)
        self.programs[name] = opened(read(text))
        return "ok"
