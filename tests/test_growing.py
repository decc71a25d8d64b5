"""An opened program's graph: promise 20, and what promises 2 and 3 say of it."""

import unittest

from flipwright.errors import TooMuch
from flipwright.graphs import Graphs
from flipwright.growing import grown
from flipwright.opening import Opened, parts_of
from flipwright.running import Listed, counted, figured, run
from making import HALF, THREE, beneath, bind, draw, made_opened, num, op, opened_text, rows_of_choices, shape, slot


class Figures:
    """What each term of a program tells with one row of choices, both ways of each if gone through."""

    def __init__(self, one, row):
        self.draws, self.row = one.draws, row
        self.told = [None, 0, 1]
        held, seen = {}, 1
        for number, term in one.steps:
            value = self.value(term, held)
            if number == -1:
                seen = 1 if seen == 1 and counted(value) != 0 else 0
                self.told.append(seen)
            held[number] = value
        self.told.append(value if seen == 1 else None)

    def value(self, term, held):
        if term[0] == "bind":
            first = self.value(term[2], held)
            values = [first, self.value(term[3], {**held, term[1]: first})]
        else:
            values = [self.value(part, held) for part in parts_of(term)]
        self.told.append(self.whole(term, values, held))
        return self.told[-1]

    def whole(self, term, values, held):
        if term[0] == "num":
            return term[1]
        if term[0] == "slot":
            return held[term[1]]
        if term[0] == "draw":
            return self.draws[term[1]][self.row[term[1]]][0]
        if term[0] == "if":
            return values[1] if counted(values[0]) != 0 else values[2]
        if term[0] == "bind":
            return values[1]
        return figured(term, values)


def how_many_kept(one):
    widths = [len(each) for each in one.draws]
    found = set()
    for outcomes in zip(*[Figures(one, row).told for row in rows_of_choices(one.draws)]):
        found |= beneath(outcomes, widths)
    return len(found)


class GrowingCase(unittest.TestCase):
    def assert_grown(self, one):
        graphs = Graphs()
        part = grown(one, graphs)
        for row in rows_of_choices(one.draws):
            self.assertEqual(graphs.down(part, row), run(one, Listed(row)))
        return graphs

    def assert_kept(self, many, one):
        self.assertEqual(self.assert_grown(one).size(), many)
        self.assertEqual(how_many_kept(one), many)
        graphs = Graphs(many)
        grown(one, graphs)
        self.assertEqual(graphs.size(), many)
        self.assertRaises(TooMuch, grown, one, Graphs(many - 1))


class TestKept(GrowingCase):
    def test_no_draw(self):
        self.assert_kept(3, opened_text("ask 0"))
        self.assert_kept(3, opened_text("ask 1"))
        self.assert_kept(4, opened_text("ask 7"))
        self.assert_kept(5, opened_text("ask 7 + 1"))

    def test_a_draw(self):
        self.assert_kept(4, opened_text("ask flip(1/2)"))
        self.assert_kept(6, opened_text("ask pick(1:1, 5:1, 7:2)"))
        self.assert_kept(4, opened_text("ask pick(5:1)"))

    def test_ops(self):
        # None, 0, 1, 2; two draws; the sum and the question of 1 and 2 beneath it.
        self.assert_kept(8, opened_text("ask flip(1/2) + flip(1/2)"))
        # Of the product lies the second draw beneath.
        self.assert_kept(6, opened_text("ask flip(1/2) * flip(1/2)"))
        self.assert_kept(7, opened_text("ask flip(1/2) = flip(1/2)"))
        self.assert_kept(6, opened_text("ask flip(1/2) < flip(1/2)"))
        self.assert_kept(9, opened_text("ask flip(1/2) - flip(1/2)"))

    def test_a_term_that_leads_to_one_outcome(self):
        self.assert_kept(4, opened_text("ask flip(1/2) * 0"))
        self.assert_kept(4, opened_text("let x = flip(1/2)", "ask x - x"))

    def test_rests_records_and_fields(self):
        self.assert_kept(8, opened_text("ask rest(pick(7:1, 8:2, 9:3), 2)"))
        self.assert_kept(7, opened_text("ask {a: flip(1/2)}"))
        self.assert_kept(7, opened_text("ask {a: flip(1/2)}.a"))
        self.assert_kept(7, opened_text("ask {a: flip(1/2)}.b"))
        self.assert_kept(12, opened_text("ask {b: flip(1/2), a: flip(1/2)}.a"))
        self.assert_kept(8, opened_text("ask {a: {b: flip(1/2)}}"))

    def test_both_ways_of_an_if(self):
        self.assert_kept(5, opened_text("ask if(1, 5, 6)"))
        self.assert_kept(7, opened_text("ask if(0, pick(5:1, 6:1), 7)"))
        self.assert_kept(10, opened_text("ask if(flip(1/2), pick(5:1, 6:1), pick(5:1, 7:1))"))

    def test_slots_and_binds(self):
        self.assert_kept(4, opened_text("let x = flip(1/2)", "let y = x", "ask y"))
        self.assert_kept(5, opened_text("let x = 9", "let x = 8", "ask x"))
        self.assert_kept(6, opened_text("def f(a) = 0", "ask f(pick(5:1, 6:1))"))
        self.assert_kept(6, opened_text("def f(a) = a", "ask f(pick(5:1, 6:1))"))

    def test_what_no_later_step_reads_is_kept_too(self):
        self.assert_kept(6, opened_text("let x = pick(5:1, 6:1)", "ask 0"))

    def test_steps_behind_a_see_that_never_is(self):
        self.assert_kept(6, opened_text("see 0", "ask pick(5:1, 6:1)"))

    def test_sees(self):
        # The see's own part leads to 5 and 0, what is seen to 1 and 0, the part told to 0 and None.
        self.assert_kept(7, opened_text("see pick(5:1, 0:1)", "ask 0"))
        self.assert_kept(5, opened_text("let x = flip(1/2)", "see x", "ask x"))
        self.assert_kept(8, opened_text("see flip(1/2)", "see flip(1/2)", "ask 1"))
        self.assert_kept(5, opened_text("see 7", "ask 8"))

    def test_sees_one_behind_the_other(self):
        rows = ["let x = pick(0:1, 1:1, 3:1)", "see x", "let y = flip(1/2)", "see x + y", "see y", "ask x - y"]
        one = opened_text(*rows)
        self.assert_kept(how_many_kept(one), one)

    def test_a_full_keeper(self):
        one = opened_text("see flip(1/2)", "ask pick(3:1, 4:1)")
        graphs = Graphs(how_many_kept(one))
        part = grown(one, graphs)
        self.assertEqual(grown(one, graphs), part)

    def test_a_keeper_that_keeps_something_already(self):
        graphs = Graphs(6)
        first, second = graphs.leaf(77), graphs.leaf(1)
        part = grown(opened_text("ask flip(1/2)"), graphs)
        self.assertEqual(graphs.size(), 5)
        self.assertEqual(graphs.at(first), ("leaf", 77))
        self.assertEqual(grown(opened_text("ask flip(1/3)"), graphs), part)
        self.assertEqual(graphs.leaf(1), second)

    def test_made_programs(self):
        for one in made_opened(120, 3, 60) + made_opened(80, 4, 40):
            self.assert_kept(how_many_kept(one), one)


class TestGrown(GrowingCase):
    def test_each_kind_of_term(self):
        for rows in (["ask 5"], ["ask flip(2/3)"], ["ask pick(5:1, 3:2, 4:9)"], ["let x = flip(1/2)", "ask x"],
                     ["ask rest(pick(5:1, 3:2, 4:9), 3)"], ["ask {b: flip(1/2), a: pick(4:1, 5:1)}"],
                     ["ask {b: flip(1/2), a: pick(4:1, 5:1)}.b"], ["ask flip(1/2).a"],
                     ["ask if(pick(0:1, 1:1, 2:1), flip(1/2), {a: flip(1/2)})"],
                     ["ask if(if(flip(1/2), {a: 1}, flip(1/2)), 5, 6)"],
                     ["ask {a: if(flip(1/2), {b: flip(1/2)}, flip(1/2)), c: if(flip(1/2), 3, {d: 1})}"],
                     ["def f(a, b) = a - b * a", "ask f(flip(1/2), pick(3:1, 0:1))"],
                     ["def f(a) = a * a", "def g(a, b) = f(a) + f(b)", "ask g(flip(1/2), f(pick(2:1, 3:1)))"]):
            self.assert_grown(opened_text(*rows))
        for sign in "+-*=<":
            self.assert_grown(opened_text("ask pick(0:1, 1:1, 5:1) " + sign + " pick(5:1, 1:2, 999999999999:1)"))
            self.assert_grown(opened_text("ask if(flip(1/2), {a: flip(1/2)}, 1) " + sign + " if(flip(1/2), {a: 1}, 2)"))

    def test_sees(self):
        for rows in (["see flip(1/2)", "ask flip(1/2)"], ["ask flip(1/2)"], ["see 0", "ask 1"], ["see 9", "ask 1"],
                     ["see {a: 1}", "ask 5"], ["see if(flip(1/2), {a: 1}, 7)", "ask 5"],
                     ["let x = pick(1:1, 2:1, 3:1)", "see 1 < x", "see x < 3", "ask x"],
                     ["let x = flip(1/2)", "see x", "let y = flip(1/2)", "see x + y - 1", "ask {a: x, b: y}"]):
            self.assert_grown(opened_text(*rows))

    def test_binds_that_no_text_opens_to(self):
        for term in (bind(9, draw(0), op("+", bind(9, draw(1), slot(9)), slot(9))),
                     op("-", bind(5, draw(0), slot(5)), bind(5, draw(1), op("*", slot(5), slot(5)))),
                     bind(5, draw(0), bind(5, op("+", slot(5), draw(1)), op("*", slot(5), slot(5))))):
            self.assert_grown(Opened([(4, term)], [HALF, THREE], 10))
            steps = [(2, term), (-1, slot(2)), (7, op("+", slot(2), draw(2)))]
            self.assert_grown(Opened(steps, [HALF, THREE, HALF], 10))

    def test_draws_that_stand_nowhere(self):
        graphs = Graphs()
        part = grown(Opened([(0, draw(2))], [HALF, THREE, HALF, THREE], 1), graphs)
        self.assertEqual(graphs.at(part), ("ask", 2, [graphs.leaf(0), graphs.leaf(1)]))
        self.assertEqual(graphs.size(), 4)

    def test_deep_terms(self):
        term = draw(0)
        for each in range(30):
            term = op("+", num(1), term)
        graphs = self.assert_grown(Opened([(0, term)], [HALF], 1))
        self.assertEqual(graphs.size(), 1 + 32 + 31)
        term = op("+", slot(99), draw(1))
        for each in range(30):
            term = bind(99, op("+", slot(99), num(1)), term)
        self.assert_grown(Opened([(0, bind(99, draw(0), term))], [HALF, HALF], 1))

    def test_many_steps(self):
        steps = [(number, draw(number)) for number in range(60)]
        steps += [(60 + number, op("=", slot(59 + number) if number else num(0), slot(59 - number)))
                  for number in range(60)]
        graphs = Graphs()
        part = grown(Opened(steps, [HALF] * 60, 120), graphs)
        for row in ([0] * 60, [1] * 60, [1, 0] * 30, [0] * 59 + [1], [1] + [0] * 59):
            self.assertEqual(graphs.down(part, row), run(Opened(steps, [HALF] * 60, 120), Listed(row)))
        self.assertEqual(len(graphs.listed(part)), 2 + 1 + 2 * 59)

    def test_records_of_large_records(self):
        # Six sums that hang on draws between each other's; a field counts nothing of a record.
        steps = [(number, num(0)) for number in range(6)]
        for number in range(54):
            steps.append((6 + number, op("+", slot(number), draw(number))))
        fields = [(name, ("record", (("x", slot(54 + number)),))) for number, name in enumerate("abcdef")]
        graphs = Graphs()
        part = grown(Opened(steps + [(60, ("record", tuple(fields)))], [HALF] * 54, 61), graphs)
        self.assertEqual(graphs.at(part), ("leaf", tuple((name, 0) for name in "abcdef")))

    def test_the_program_stays(self):
        one = opened_text("def f(a) = a + flip(1/2)", "let x = f(1)", "see x", "ask f(x)")
        before = shape(one)
        graphs = Graphs()
        part = grown(one=one, graphs=graphs)
        self.assertEqual(shape(one), before)
        one.draws[0].clear()
        one.steps.clear()
        self.assertEqual(graphs.down(part, [1, 1]), 3)

    def test_made_programs(self):
        for depth in (2, 3, 4):
            for one in made_opened(150, depth, 150):
                self.assert_grown(one)


if __name__ == "__main__":
    unittest.main()
