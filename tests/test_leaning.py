"""Which steps lean on which, which are wanted, what is left: promise 24, and what promises 2 and 3 say of it."""

import unittest

from flipwright.leaning import leans, left, wanted
from flipwright.opening import Opened, bound, parts_of
from flipwright.plain import plain_table
from flipwright.weighing import graph_table
from making import HALF, THIRD, THREE, answer, bind, draw, made_opened, num, op, opened_text, shape, slot


def reads(term, bound_slots):
    """The slots that a term reads, by going down with those that are bound so far."""
    if term[0] == "slot":
        return set() if term[1] in bound_slots else {term[1]}
    if term[0] == "bind":
        return reads(term[2], bound_slots) | reads(term[3], bound_slots | {term[1]})
    return set().union(*[reads(part, bound_slots) for part in parts_of(term)])


def leans_by_reads(one):
    """For each step the steps whose slot it reads, each pair of steps looked at."""
    return [[place for place, step in enumerate(one.steps) if step[0] != -1 and step[0] in reads(term, frozenset())]
            for number, term in one.steps]


def wanted_by_rounds(one):
    """All that the ask and the sees want, by adding what is leaned on until nothing more comes."""
    leaning = leans_by_reads(one)
    found = {place for place, step in enumerate(one.steps) if step[0] == -1} | {len(one.steps) - 1}
    for each in one.steps:
        found = found.union(*[leaning[place] for place in found])
    return sorted(found)


class TestLeans(unittest.TestCase):
    def assert_leans(self, one, expected):
        self.assertEqual(leans(one), expected)
        self.assertEqual(leans_by_reads(one), expected)

    def test_no_slot(self):
        self.assert_leans(opened_text("ask 7"), [[]])
        self.assert_leans(opened_text("let x = flip(1/2)", "see flip(1/2)", "ask pick(1:1, 2:2)"), [[], [], []])

    def test_one_slot(self):
        self.assert_leans(opened_text("let x = flip(1/2)", "ask x"), [[], [0]])
        self.assert_leans(opened_text("let x = 1", "let y = x", "ask y"), [[], [0], [1]])

    def test_several_slots_sorted(self):
        self.assert_leans(opened_text("let x = 1", "let y = 2", "let z = 3", "ask z + x"), [[], [], [], [0, 2]])
        self.assert_leans(opened_text("let x = 1", "let y = 2", "let z = 3", "ask y + z * x"), [[], [], [], [0, 1, 2]])

    def test_the_same_slot_twice(self):
        self.assert_leans(opened_text("let x = 1", "let y = x + x", "ask y * x * y"), [[], [0], [0, 1]])

    def test_more_than_nine_steps(self):
        rows = ["let " + name + " = 1" for name in "abcdefghijkl"]
        self.assert_leans(opened_text(*rows, "ask l + b + k + a"), [[]] * 12 + [[0, 1, 10, 11]])

    def test_every_kind_of_term(self):
        rows = ["let a = 1", "let b = 2", "let c = 3"]
        for term, expected in (("if(a, b, c)", [0, 1, 2]), ("if(0, b, 5)", [1]), ("if(flip(1/2), 5, c)", [2]),
                               ("rest(b, 5)", [1]), ("{d: c, e: a}", [0, 2]), ("b.a", [1]), ("{a: c}.b", [2]),
                               ("a < c", [0, 2]), ("b = 1", [1]), ("{a: 1}.b", []), ("(a - b) * (c + 1)", [0, 1, 2])):
            self.assert_leans(opened_text(*rows, "ask " + term), [[], [], [], expected])

    def test_a_name_stands_for_the_last_let(self):
        self.assert_leans(opened_text("let x = 1", "let x = x + 1", "let x = 5", "ask x"), [[], [0], [], [2]])
        self.assert_leans(opened_text("let x = 1", "again 3 x = x + 1", "ask x"), [[], [0], [1], [2], [3]])
        self.assert_leans(opened_text("let x = 1", "again 0 x = x + 1", "ask x"), [[], [0]])

    def test_sees_are_counted_and_not_leaned_on(self):
        rows = ["let x = flip(1/2)", "see x", "let y = x", "see y + x", "see 1", "ask y"]
        self.assert_leans(opened_text(*rows), [[], [0], [0], [0, 2], [], [2]])

    def test_bound_slots_are_not_leaned_on(self):
        one = opened_text("def f(a, b) = a + b * a", "let x = 1", "let y = f(2, flip(1/2))", "ask f(x, f(y, 3))")
        self.assert_leans(one, [[], [], [0, 1]])
        self.assert_leans(Opened([(0, num(1)), (2, bind(1, num(4), slot(1)))], [], 3), [[], []])
        inner = bind(2, slot(1), op("+", slot(1), slot(2)))
        self.assert_leans(Opened([(0, num(1)), (3, bind(1, num(4), inner))], [], 4), [[], []])

    def test_slots_within_a_binds_own_parts_are(self):
        one = opened_text("def f(a) = 7", "let x = 1", "ask f(x)")
        self.assert_leans(one, [[], [0]])
        self.assert_leans(Opened([(0, num(1)), (2, bind(1, num(4), slot(0)))], [], 3), [[], [0]])
        self.assert_leans(Opened([(0, num(1)), (1, num(2)), (5, bind(3, slot(1), op("*", slot(3), slot(0))))], [], 6),
                          [[], [], [0, 1]])
        self.assert_leans(Opened([(0, num(1)), (5, bind(3, bind(4, slot(0), slot(4)), num(0)))], [], 6), [[], [0]])

    def test_a_bind_within_a_bind_of_the_same_slot(self):
        inner = bind(3, op("+", slot(3), slot(0)), op("*", slot(3), slot(1)))
        one = Opened([(0, num(1)), (1, num(2)), (5, bind(3, num(1), op("+", inner, slot(3))))], [], 6)
        self.assert_leans(one, [[], [], [0, 1]])

    def test_slots_that_are_not_the_steps_numbers(self):
        one = Opened([(4, num(1)), (-1, slot(4)), (9, op("+", slot(4), num(1))), (-1, num(1)), (20, slot(9)),
                      (21, op("+", slot(20), slot(4)))], [], 30)
        self.assert_leans(one, [[], [0], [0], [], [2], [0, 4]])

    def test_made_programs(self):
        leaning = 0
        for depth in (1, 2, 3, 4):
            for one in made_opened(150, depth, 10 ** 9):
                self.assertEqual(leans(one), leans_by_reads(one))
                leaning += len([places for places in leans(one) if places])
        self.assertGreater(leaning, 500)

    def test_deep_terms_and_many_steps(self):
        term = slot(0)
        for each in range(29):
            term = op("+", num(1), term)
        steps = [(0, num(1))] + [(number, op("+", slot(number - 1), term)) for number in range(1, 120)]
        self.assert_leans(Opened(steps, [], 120), [[], [0]] + [[0, number - 1] for number in range(2, 120)])

    def test_what_is_told_is_the_askers_own(self):
        one = opened_text("let x = 1", "let y = x", "see x", "ask x")
        before = shape(one)
        found = leans(one=one)
        for places in found:
            places.append("mine")
            self.assertEqual(places.count("mine"), 1)
        found.clear()
        self.assertEqual(leans(one), [[], [0], [0], [0]])
        self.assertEqual(shape(one), before)


class TestWanted(unittest.TestCase):
    def assert_wanted(self, one, expected):
        self.assertEqual(wanted(one), expected)
        self.assertEqual(wanted_by_rounds(one), expected)

    def test_without_sees(self):
        self.assert_wanted(opened_text("ask 7"), [0])
        self.assert_wanted(opened_text("let x = 1", "ask 7"), [1])
        self.assert_wanted(opened_text("let x = 1", "let y = 2", "ask y"), [1, 2])
        self.assert_wanted(opened_text("let x = 1", "let y = x", "let z = y", "let w = z + x", "ask y"), [0, 1, 4])

    def test_chains(self):
        one = opened_text("let x = 1", "let y = 5", "again 4 x = x + 1", "again 2 y = y + x", "ask x")
        self.assert_wanted(one, [0, 2, 3, 4, 5, 8])

    def test_sees_are_wanted_and_what_they_want(self):
        rows = ["let x = flip(1/2)", "let y = flip(1/2)", "see x", "let z = x + y", "ask 5"]
        self.assert_wanted(opened_text(*rows), [0, 2, 4])
        self.assert_wanted(opened_text("see 1", "see flip(1/2)", "ask 5"), [0, 1, 2])
        rows = ["let x = 1", "let y = x", "let z = 3", "see y", "let w = 4", "see w", "ask 5"]
        self.assert_wanted(opened_text(*rows), [0, 1, 3, 4, 5, 6])

    def test_what_both_want_is_told_once(self):
        self.assert_wanted(opened_text("let x = 1", "let y = x", "see y", "see x + y", "ask y + x"), [0, 1, 2, 3, 4])

    def test_what_stands_behind_a_see_can_be_unwanted(self):
        self.assert_wanted(opened_text("let x = 1", "see x", "let x = 2", "let y = 3", "ask y"), [0, 1, 3, 4])

    def test_what_only_the_unwanted_leans_on(self):
        self.assert_wanted(opened_text("let x = 1", "let y = x", "let z = y", "ask 2"), [3])

    def test_made_programs(self):
        fewer = 0
        for depth in (1, 2, 3, 4):
            for one in made_opened(150, depth, 10 ** 9):
                self.assertEqual(wanted(one), wanted_by_rounds(one))
                fewer += len(wanted(one)) < len(one.steps)
        self.assertGreater(fewer, 100)

    def test_what_is_told_is_the_askers_own(self):
        one = opened_text("let x = 1", "ask x")
        before = shape(one)
        wanted(one=one).clear()
        self.assertEqual(wanted(one), [0, 1])
        self.assertEqual(shape(one), before)


class TestLeft(unittest.TestCase):
    def assert_left(self, one, steps):
        found = left(one)
        self.assertIsInstance(found, Opened)
        self.assertEqual(found.steps, steps)
        self.assertEqual(found.draws, one.draws)
        self.assertEqual(found.slots, one.slots)

    def test_nothing_is_left_out(self):
        one = opened_text("let x = flip(1/3)", "see x", "ask x + 1")
        self.assert_left(one, one.steps)

    def test_all_draws_and_slots_stay(self):
        one = opened_text("let x = flip(1/3)", "let y = pick(7:1, 8:2, 9:3)", "see flip(1/2)", "ask y")
        self.assert_left(one, [(1, draw(1)), (-1, draw(2)), (2, slot(1))])
        self.assertEqual(left(one).draws, [THIRD, THREE, HALF])
        one = opened_text("let x = flip(1/3)", "ask 4")
        self.assert_left(one, [(1, num(4))])

    def test_the_order_stays(self):
        one = opened_text("let a = 1", "let b = 2", "see b", "let c = b", "let d = a", "see 1", "ask c")
        self.assert_left(one, [one.steps[place] for place in (1, 2, 3, 5, 6)])

    def test_steps_that_no_text_opens_to(self):
        one = Opened([(3, draw(1)), (5, draw(3)), (-1, op("<", slot(3), num(9))), (12, bind(4, num(2), slot(4)))],
                     [HALF, THREE, HALF, HALF, HALF], 40)
        self.assert_left(one, [(3, draw(1)), (-1, op("<", slot(3), num(9))), (12, bind(4, num(2), slot(4)))])

    def test_left_of_what_is_left_is_the_same(self):
        for one in made_opened(150, 3, 10 ** 9):
            found = left(one)
            self.assert_left(one, [one.steps[place] for place in wanted_by_rounds(one)])
            self.assertEqual(shape(left(found)), shape(found))
            self.assertEqual(wanted(found), list(range(len(found.steps))))

    def test_what_is_left_out_changes_no_table(self):
        changed = 0
        for depth in (1, 2, 3):
            for one in made_opened(120, depth, 150):
                found = left(one)
                self.assertEqual(answer(graph_table, found), answer(graph_table, one))
                if bound(one) <= 1024:
                    self.assertEqual(answer(plain_table, found), answer(plain_table, one))
                changed += found.steps != one.steps
        self.assertGreater(changed, 60)

    def test_what_is_told_is_the_askers_own(self):
        one = opened_text("let x = flip(1/3)", "let y = flip(1/2)", "ask y")
        before = shape(one)
        found = left(one=one)
        found.draws[0].append("mine")
        found.draws.append("mine")
        found.steps.clear()
        self.assertEqual(shape(one), before)
        self.assertEqual(left(one).steps, [(1, draw(1)), (2, slot(1))])
        found = left(one)
        kept = shape(found)
        one.draws[1].clear()
        one.draws.clear()
        one.steps.clear()
        self.assertEqual(shape(found), kept)


if __name__ == "__main__":
    unittest.main()
