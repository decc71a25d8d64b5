"""What holds over the whole program: promises 1 and 3, promise 2 of all tellers, and the names of the interface."""

import inspect
import unittest
from collections import Counter
from fractions import Fraction
from importlib import import_module
from math import prod

from flipwright.apart import left_table
from flipwright.bags import cost
from flipwright.drawing import Drawer, Numbered, bases
from flipwright.errors import Never, TooMuch
from flipwright.leaning import left
from flipwright.likely import likeliest, prices
from flipwright.messages import bags_table, filled
from flipwright.opening import Opened, bound, opened
from flipwright.plain import plain_table
from flipwright.reader import read
from flipwright.running import Listed, run
from flipwright.weighing import graph_of, graph_table
from flipwright.writer import shown
from making import (HALF, THREE, answer, as_table, draw, led, made_opened, made_programs, num, op, opened_text, opens,
                    row_share, rows_of_choices, shape, slot, table_by_rows, width)

TELLERS = (plain_table, graph_table, bags_table, left_table)
# The arguments of each name, None where none are told.
INTERFACE = {
    "errors": {"FlipError": None, "NoShare": None, "Never": None, "NoText": "row", "NoName": "row", "TooMuch": None,
               "NoOrder": None, "NoNumber": None, "NoRow": None},
    "ratios": {"fraction": "top bottom", "plus": "one other", "minus": "one other", "times": "one other",
               "over": "one other", "under": "one other"},
    "tables": {"in_order": "outcomes", "table": "pairs", "total": "table", "scaled": "table", "mixed": "parts",
               "without": "table outcome", "turned": "table how", "share_of": "table outcome"},
    "words": {"words_of": "row"},
    "reader": {"read": "text"},
    "writer": {"shown": "program", "shown_term": "term"},
    "opening": {"opened": "program", "Opened": "steps draws slots", "parts_of": "term", "size": "one", "bound": "one",
                "bound_of": "term draws"},
    "running": {"Hand": "", "Hand.take": "self site draw", "Listed": "choices", "counted": "outcome",
                "figured": "term values", "told": "term held draws hand", "run": "one hand"},
    "plain": {"ways": "one", "term_ways": "term held draws", "plain_table": "one"},
    "graphs": {"Graphs": "most", "Graphs.leaf": "self outcome", "Graphs.asked": "self site children",
               "Graphs.at": "self part", "Graphs.size": "self", "Graphs.down": "self part choices",
               "Graphs.joined": "self parts how", "Graphs.chosen": "self test one other", "Graphs.listed": "self part"},
    "growing": {"grown": "one graphs"},
    "weighing": {"graph_of": "one", "weighed": "parts draws", "graph_table": "one"},
    "likely": {"prices": "parts draws", "likeliest": "one"},
    "leaning": {"leans": "one", "wanted": "one", "left": "one"},
    "apart": {"apart": "one", "left_table": "one"},
    "ranges": {"ranges": "one", "factors": "one"},
    "bags": {"bags": "one", "cost": "one"},
    "messages": {"filled": "one", "slot_tables": "one", "bags_table": "one"},
    "drawing": {"bases": "one", "Numbered": "numbers", "Numbered.take": "self site draw", "Drawer": "one",
                "Drawer.drawn": "self number", "Drawer.spans": "self"},
    "desk": {"Desk": "", "Desk.say": "self text"},
}


def answers(one):
    return [answer(teller, one) for teller in TELLERS]


def told_of(one):
    """What the tellers tell of a program that don't refuse it with TooMuch, each answer once."""
    found = []
    for each in answers(one):
        if each != TooMuch and each not in found:
            found.append(each)
    return found


def count_by_rows(one):
    """How many rows of numbers lead to another outcome than None, by all rows of choices."""
    return sum(prod(each[index][1] for each, index in zip(one.draws, row)) for row in rows_of_choices(one.draws)
               if run(one, Listed(row)) is not None)


class TestTheInterface(unittest.TestCase):
    def test_each_name_is_there_with_its_arguments(self):
        for module, names in INTERFACE.items():
            for name, arguments in names.items():
                with self.subTest(module=module, name=name):
                    thing = import_module("flipwright." + module)
                    for part in name.split("."):
                        thing = getattr(thing, part)
                    if arguments is not None:
                        self.assertEqual(list(inspect.signature(thing).parameters), arguments.split())

    def test_how_many_parts_a_keeper_keeps_where_nothing_is_told(self):
        graphs = import_module("flipwright.graphs")
        self.assertEqual(inspect.signature(graphs.Graphs).parameters["most"].default, 2000)

    def test_each_table_that_is_a_list_holds_tuples(self):
        one = opened_text("let x = flip(1/3)", "see x + flip(1/2)", "ask {a: x}")
        for teller in TELLERS:
            found = teller(one)
            self.assertIsInstance(found, list)
            for pair in found:
                self.assertIsInstance(pair, tuple)
                self.assertIsInstance(pair[1], tuple)


class TestFourTellers(unittest.TestCase):
    def assert_all_tell(self, rows, expected):
        self.assertEqual(answers(opened_text(*rows)), [expected] * 4)

    def test_by_hand(self):
        self.assert_all_tell(["ask 7"], [(7, (1, 1))])
        self.assert_all_tell(["let sick = flip(1/100)", "let sign = if(sick, flip(9/10), flip(1/10))", "see sign",
                              "ask sick"], [(0, (11, 12)), (1, (1, 12))])
        self.assert_all_tell(["def die() = pick(1:1, 2:1, 3:1, 4:1, 5:1, 6:1)", "let x = die()", "let y = die()",
                              "see x + y = 4", "ask {most: if(x < y, y, x), one: x}"], [
                                  ((("most", 2), ("one", 2)), (1, 3)), ((("most", 3), ("one", 1)), (1, 3)),
                                  ((("most", 3), ("one", 3)), (1, 3))])

    def test_never(self):
        for rows in (["see 0", "ask 1"], ["see {a: 1}", "ask 5"], ["see flip(1/2) = 2", "ask flip(1/2)"],
                     ["let x = flip(1/2)", "see x", "see 1 - x", "ask x"],
                     ["let x = flip(1/2)", "let y = x", "see y = 1", "let z = x", "see z = 0", "ask 3"],
                     ["let x = flip(1/2)", "see x = 2", "let y = flip(1/2)", "see y", "ask y"]):
            self.assert_all_tell(rows, Never)

    def test_made_programs(self):
        seen = Counter()
        for depth in (1, 2, 3, 4):
            for one in made_opened(250, depth, 300):
                expected = table_by_rows(one) or Never
                self.assertEqual(told_of(one), [expected])
                if bound(one) <= 1024:
                    self.assertEqual(answer(plain_table, one), expected)
                    self.assertEqual(answer(left_table, one), expected)
                seen["never" if expected == Never else "told"] += 1
                seen["all"] += answers(one) == [expected] * 4
                if expected != Never:
                    self.assertEqual(sum(Fraction(*share) for outcome, share in expected), 1)
        self.assertGreater(seen["never"], 100)
        self.assertGreater(seen["told"], 700)
        self.assertGreater(seen["all"], 800)

    def test_made_programs_with_many_rows_of_choices(self):
        several = 0
        for depth in (2, 3, 4, 5):
            for one in made_opened(400, depth, 10 ** 12):
                if width(one.draws) > 300:
                    self.assertLessEqual(len(told_of(one)), 1)
                    several += len([each for each in answers(one) if each != TooMuch]) > 1
        self.assertGreater(several, 100)

    def test_texts_read_written_and_read_again(self):
        seen = 0
        for depth in (1, 2, 3, 4):
            for program in made_programs(120, depth):
                text = shown(program)
                again = read(text)
                self.assertEqual(again, program)
                self.assertEqual(shown(again), text)
                if opens(program) and width(opened(program).draws) <= 10 ** 4:
                    self.assertEqual(shape(opened(again)), shape(opened(program)))
                    self.assertEqual(answers(opened(again)), answers(opened(program)))
                    seen += 1
        self.assertGreater(seen, 200)

    def test_too_much_of_one_changes_no_other(self):
        chain = opened_text("let x = 0", "again 15 x = x + flip(1/2)", "ask rest(x, 2)")
        half = [(0, (1, 2)), (1, (1, 2))]
        self.assertEqual(answers(chain), [TooMuch, half, half, TooMuch])
        apart = opened_text("let x = 0", "again 9 x = x + flip(1/2)", "see x", "let y = 0", "again 9 y = y + flip(1/2)",
                            "ask rest(y, 2)")
        self.assertEqual(answers(apart), [TooMuch, half, half, half])
        wide = opened_text("let x = 0", "again 9 x = x + x + flip(1/2)", "ask rest(x, 2)")
        self.assertEqual(answers(wide), [half, TooMuch, TooMuch, half])

    def test_nothing_is_changed_by_telling(self):
        for one in made_opened(60, 3, 100):
            before = shape(one)
            first = answers(one)
            for each in first:
                if isinstance(each, list):
                    each.clear()
            self.assertEqual(shape(one), before)
            self.assertEqual(answers(one), answers(Opened(one.steps, one.draws, one.slots)))


class TestTheRest(unittest.TestCase):
    def test_what_is_left_out_changes_no_table(self):
        fewer = 0
        for one in made_opened(200, 3, 200):
            self.assertEqual(told_of(left(one)), told_of(one))
            fewer += len(left(one).steps) < len(one.steps)
        self.assertGreater(fewer, 50)

    def test_each_row_of_choices_leads_down_the_graph(self):
        for one in made_opened(100, 3, 60):
            parts = graph_of(one)
            for row in rows_of_choices(one.draws):
                self.assertEqual(led(parts, len(parts) - 1, row), run(one, Listed(row)))

    def test_no_row_is_likelier(self):
        for one in made_opened(100, 3, 60):
            shares = [row_share(one.draws, row) for row in rows_of_choices(one.draws)
                      if run(one, Listed(row)) is not None]
            if not shares:
                self.assertRaises(Never, likeliest, one)
                continue
            choices, share = likeliest(one)
            self.assertIsNotNone(run(one, Listed(choices)))
            self.assertEqual((Fraction(*share), row_share(one.draws, choices)), (max(shares), max(shares)))
            self.assertLessEqual(Fraction(*share), Fraction(*prices(graph_of(one), one.draws)[-1]))

    def test_each_answer_comes_for_its_share_of_the_numbers(self):
        seen = 0
        for one in made_opened(300, 2, 30):
            if answer(Drawer, one) == Never:
                self.assertEqual(answer(plain_table, one), Never)
                continue
            drawer = Drawer(one)
            self.assertEqual(drawer.many, count_by_rows(one))
            shares = {}
            for begin, end, way, outcome in drawer.spans():
                shares[outcome] = shares.get(outcome, 0) + Fraction(end - begin, drawer.many)
            self.assertEqual(as_table(shares), answer(bags_table, one))
            seen += 1
        self.assertGreater(seen, 200)

    def test_a_numbered_hand_and_the_drawer_agree(self):
        one = Opened([(0, draw(0)), (-1, op("<", slot(0), num(9))), (1, op("+", slot(0), draw(2)))],
                     [THREE, HALF, [(0, 1), (5, 3)]], 2)
        self.assertEqual(bases(one), [6, 2, 4])
        rows = [[first, second, third] for first in range(6) for second in range(2) for third in range(4)]
        found = Counter(run(one, Numbered(row)) for row in rows)
        drawer = Drawer(one)
        self.assertEqual(Counter(drawer.drawn(number)[1] for number in range(drawer.many)),
                         Counter({outcome: many for outcome, many in found.items() if outcome is not None}))

    def test_the_rows_of_all_bags_are_no_more_than_the_cost(self):
        for one in made_opened(200, 4, 10 ** 5):
            found = answer(filled, one)
            if isinstance(found, list):
                self.assertLessEqual(sum(len(rows) for bag, rows in found), cost(one))


if __name__ == "__main__":
    unittest.main()
