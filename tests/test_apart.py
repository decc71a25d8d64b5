"""The parts of a program that hang together, and the left table: promises 25 and 26, and what 2 and 3 say of them."""

import unittest
from fractions import Fraction

from flipwright.apart import apart, left_table
from flipwright.errors import Never, TooMuch
from flipwright.leaning import leans
from flipwright.opening import Opened, bound
from flipwright.plain import plain_table
from flipwright.weighing import graph_table
from making import (HALF, THIRD, THREE, answer, as_table, bind, draw, evenly, made_opened, num, op, opened_text, shape,
                    slot, table_by_rows)


def wants(leaning, place):
    found = {place}
    for each in leaning[place]:
        found |= wants(leaning, each)
    return found


def parts_by_pairs(one):
    """The steps of each part, the ask's first: all pairs of sees and the ask are held against each other, again and
    again."""
    leaning = leans(one)
    seekers = [place for place, step in enumerate(one.steps) if step[0] == -1] + [len(one.steps) - 1]
    together = {place: {place} for place in seekers}
    for turn in seekers:
        for first in seekers:
            for second in seekers:
                if together[first] & together[second] or wants(leaning, first) & wants(leaning, second):
                    together[first] = together[first] | together[second]
                    together[second] = together[first]
    sets = []
    for place in seekers[-1:] + seekers[:-1]:
        if together[place] not in sets:
            sets.append(together[place])
    return [sorted(set().union(*[wants(leaning, place) for place in each])) for each in sets]


class TestApart(unittest.TestCase):
    def assert_apart(self, one, asked, *others):
        """The ask's part has the steps of these numbers, each other part those and an ask that tells 1."""
        told = apart(one)
        self.assertIsInstance(told, tuple)
        self.assertEqual(len(told), 2)
        part, rest = told
        self.assertIsInstance(part, Opened)
        self.assertEqual(part.steps, [one.steps[place] for place in asked])
        self.assertEqual((part.draws, part.slots), (one.draws, one.slots))
        self.assertIsInstance(rest, list)
        self.assertEqual(len(rest), len(others))
        for each, places in zip(rest, others):
            self.assertIsInstance(each, Opened)
            self.assertEqual(each.steps, [one.steps[place] for place in places] + [(one.slots, ("num", 1))])
            self.assertEqual((each.draws, each.slots), (one.draws, one.slots + 1))
        self.assertEqual(parts_by_pairs(one), [list(asked)] + [list(places) for places in others])

    def test_no_sees(self):
        self.assert_apart(opened_text("ask 7"), [0])
        self.assert_apart(opened_text("let x = flip(1/2)", "let y = 5", "ask x"), [0, 2])

    def test_a_see_that_hangs_together_with_the_ask(self):
        self.assert_apart(opened_text("let x = flip(1/2)", "see x", "ask x"), [0, 1, 2])
        rows = ["let x = flip(1/2)", "let y = x", "let z = x", "see y", "ask z"]
        self.assert_apart(opened_text(*rows), [0, 1, 2, 3, 4])

    def test_a_see_alone(self):
        self.assert_apart(opened_text("see 1", "ask 7"), [1], [0])
        self.assert_apart(opened_text("let x = flip(1/2)", "see x", "ask 7"), [2], [0, 1])
        self.assert_apart(opened_text("let x = flip(1/2)", "let y = flip(1/3)", "see x", "ask y"), [1, 3], [0, 2])

    def test_the_ask_of_another_part(self):
        one = opened_text("let x = flip(1/3)", "let y = 4", "see x", "ask y")
        other = apart(one)[1][0]
        self.assertEqual(other.steps, [(0, draw(0)), (-1, slot(0)), (3, num(1))])
        self.assertEqual(other.slots, 4)
        self.assertEqual(other.draws, [THIRD])

    def test_sees_that_hang_together_with_each_other_alone(self):
        rows = ["let x = flip(1/2)", "see x", "let y = x + 1", "see y", "let z = flip(1/3)", "ask z"]
        self.assert_apart(opened_text(*rows), [4, 5], [0, 1, 2, 3])

    def test_by_a_third(self):
        rows = ["let x = flip(1/2)", "let y = flip(1/2)", "see x", "see y", "see x + y", "ask 1"]
        self.assert_apart(opened_text(*rows), [5], [0, 1, 2, 3, 4])
        rows = ["let x = flip(1/2)", "let y = flip(1/2)", "see x", "see x + y", "ask y"]
        self.assert_apart(opened_text(*rows), [0, 1, 2, 3, 4])

    def test_by_a_chain_of_sees(self):
        rows = ["let " + name + " = flip(1/2)" for name in "abcde"]
        sees = ["see d + e", "see a + b", "see c + d", "see b + c"]
        self.assert_apart(opened_text(*rows, *sees, "ask 5"), [9], range(9))
        self.assert_apart(opened_text(*rows, *sees, "ask a"), range(10))
        self.assert_apart(opened_text(*rows, *sees[:3], "ask a"), [0, 1, 6, 8], [2, 3, 4, 5, 7])

    def test_by_the_ask(self):
        rows = ["let x = flip(1/2)", "let y = flip(1/2)", "see x", "see y", "ask x + y"]
        self.assert_apart(opened_text(*rows), [0, 1, 2, 3, 4])

    def test_several_other_parts_in_the_order_of_their_first_sees(self):
        rows = ["let x = flip(1/2)", "let y = flip(1/2)", "let z = flip(1/2)", "see z", "see y", "see x", "ask 5"]
        self.assert_apart(opened_text(*rows), [6], [2, 3], [1, 4], [0, 5])
        rows = ["let x = flip(1/2)", "let y = flip(1/2)", "let z = flip(1/2)", "see z", "see y", "see x", "ask y"]
        self.assert_apart(opened_text(*rows), [1, 4, 6], [2, 3], [0, 5])

    def test_the_first_see_counts_where_later_ones_come_to_it(self):
        rows = ["let x = flip(1/2)", "let y = flip(1/2)", "see y", "see x", "see 1", "see x + 1", "see y + 1", "ask 5"]
        self.assert_apart(opened_text(*rows), [7], [1, 2, 6], [0, 3, 5], [4])
        rows = ["let x = flip(1/2)", "let y = flip(1/2)", "see y", "see 1", "see x", "see x + y", "ask 5"]
        self.assert_apart(opened_text(*rows), [6], [0, 1, 2, 4, 5], [3])

    def test_sees_that_lean_on_nothing_are_parts_of_their_own(self):
        self.assert_apart(opened_text("see 1", "see flip(1/2)", "see 1", "ask 7"), [3], [0], [1], [2])

    def test_draws_in_common_are_none(self):
        # Each draw stands once, so the same weights do not make two steps hang together.
        self.assert_apart(opened_text("let x = flip(1/2)", "see flip(1/2)", "ask x"), [0, 2], [1])

    def test_what_nothing_wants_is_in_no_part(self):
        rows = ["let x = flip(1/2)", "let y = x", "let z = flip(1/2)", "see z", "let w = z + x", "ask 3"]
        self.assert_apart(opened_text(*rows), [5], [2, 3])

    def test_steps_that_no_text_opens_to(self):
        one = Opened([(3, draw(1)), (5, draw(3)), (-1, op("<", slot(3), num(9))), (-1, bind(4, slot(5), slot(4))),
                      (12, bind(4, slot(3), slot(4)))], [HALF, THREE, HALF, THIRD, HALF], 40)
        self.assert_apart(one, [0, 2, 4], [1, 3])
        self.assertEqual(apart(one)[1][0].steps[-1], (40, num(1)))
        self.assertEqual(apart(one)[1][0].slots, 41)

    def test_made_programs(self):
        several, ask_with_sees = 0, 0
        for depth in (1, 2, 3):
            for one in made_opened(250, depth, 10 ** 9):
                found = parts_by_pairs(one)
                self.assert_apart(one, *found)
                several += len(found) > 2
                ask_with_sees += any(one.steps[place][0] == -1 for place in found[0])
        self.assertGreater(several, 30)
        self.assertGreater(ask_with_sees, 30)

    def test_the_table_is_that_of_the_asks_part(self):
        for one in made_opened(150, 2, 150):
            part, others = apart(one)
            refused = Never in [answer(graph_table, each) for each in [part] + others]
            self.assertEqual(answer(graph_table, one), Never if refused else graph_table(part))

    def test_what_is_told_is_the_askers_own(self):
        one = opened_text("let x = flip(1/3)", "let y = flip(1/2)", "see x", "see 1", "ask y")
        before = shape(one)
        part, others = apart(one=one)
        kept = [shape(each) for each in others]
        part.draws[0].append("mine")
        part.draws.clear()
        part.steps.clear()
        self.assertEqual([shape(each) for each in others], kept)
        others[0].draws[1].clear()
        others[0].steps.clear()
        self.assertEqual(shape(others[1]), kept[1])
        others.clear()
        self.assertEqual(shape(one), before)
        part, others = apart(one)
        kept = [shape(each) for each in [part] + others]
        one.draws[0].clear()
        one.draws.clear()
        one.steps.clear()
        self.assertEqual([shape(each) for each in [part] + others], kept)


def flips(*many):
    """A step with a sum of so many flips for each number, in slots 0 and up, and the draws."""
    steps, draws = [], []
    for number, each in enumerate(many):
        term = num(0)
        for turn in range(each):
            term = op("+", term, draw(len(draws)))
            draws.append(HALF)
        steps.append((number, term))
    return steps, draws


class TestLeftTable(unittest.TestCase):
    def test_numbers_and_records(self):
        self.assertEqual(left_table(opened_text("ask 7")), [(7, (1, 1))])
        self.assertEqual(left_table(opened_text("ask pick(9:1, 3:2) * flip(1/2)")),
                         [(0, (1, 2)), (3, (1, 3)), (9, (1, 6))])
        self.assertEqual(left_table(opened_text("ask if(flip(1/3), {b: flip(1/2), a: 2}, pick(5:1, 4:1))")), [
            (4, (1, 3)), (5, (1, 3)), ((("a", 2), ("b", 0)), (1, 6)), ((("a", 2), ("b", 1)), (1, 6))])

    def test_what_is_seen(self):
        rows = ["let sick = flip(1/100)", "let sign = if(sick, flip(9/10), flip(1/10))", "see sign", "ask sick"]
        self.assertEqual(left_table(opened_text(*rows)), [(0, (11, 12)), (1, (1, 12))])
        rows = ["let x = flip(1/3)", "let y = flip(1/2)", "see y", "see flip(1/9)", "ask x"]
        self.assertEqual(left_table(opened_text(*rows)), [(0, (2, 3)), (1, (1, 3))])

    def test_as_the_plain_table_and_that_of_the_graph(self):
        refused = 0
        for depth in (1, 2, 3, 4):
            for one in made_opened(150, depth, 150):
                expected = table_by_rows(one) or Never
                found = answer(left_table, one)
                if found != TooMuch:
                    self.assertEqual(found, expected)
                    self.assertEqual(answer(graph_table, one), expected)
                    refused += found == Never
                if bound(one) <= 1024:
                    self.assertEqual(answer(plain_table, one), expected)
                    self.assertNotEqual(found, TooMuch)
                if isinstance(found, list):
                    self.assertEqual(sum(Fraction(*share) for outcome, share in found), 1)
        self.assertGreater(refused, 20)

    def test_a_bound_above_1024_where_no_parts_is(self):
        steps, draws = flips(10, 10, 10)
        steps += [(-1, op("=", slot(0), num(3))), (-1, slot(1)), (-1, op("<", slot(0), num(9))), (3, slot(2))]
        one = Opened(steps, draws, 4)
        self.assertEqual(bound(one), 2 ** 30)
        self.assertRaises(TooMuch, plain_table, one)
        ten = [1, 10, 45, 120, 210, 252, 210, 120, 45, 10, 1]
        expected = as_table({number: Fraction(many, 1024) for number, many in enumerate(ten)})
        self.assertEqual(left_table(one), expected)
        self.assertEqual(left_table(one), graph_table(one))

    def test_what_is_not_wanted_does_not_count(self):
        rows = ["let x = flip(1/3)", "let y = 0", "again 30 y = y + flip(1/2) + x", "see x", "ask x + 1"]
        self.assertRaises(TooMuch, plain_table, opened_text(*rows))
        self.assertEqual(left_table(opened_text(*rows)), [(2, (1, 1))])

    def test_just_1024_and_one_above_it(self):
        wide = {1024: [evenly(1024)], 1025: [evenly(25), evenly(41)]}
        for many, draws in wide.items():
            steps = [(number, draw(number)) for number in range(len(draws))]
            summed = slot(0) if len(draws) == 1 else op("+", slot(0), slot(1))
            asked = Opened(steps + [(5, op("<", summed, num(0)))], draws, 6)
            other = Opened(steps + [(-1, op("<", summed, num(5000))), (5, num(8))], draws, 6)
            for one, expected in ((asked, [(0, (1, 1))]), (other, [(8, (1, 1))])):
                self.assertEqual(bound(one), many)
                self.assertEqual(answer(left_table, one), expected if many == 1024 else TooMuch)

    def test_the_bound_counts_not_the_ways(self):
        four = "def f() = flip(1/2) + flip(1/2) + flip(1/2) + flip(1/2)"
        for rows in ([four, "ask if(0, f() + f() + f(), 5)"], [four, "see if(1, 1, f() + f() + f())", "ask 5"]):
            self.assertRaises(TooMuch, left_table, opened_text(*rows))

    def test_too_much_of_any_part(self):
        for many in ((11, 1, 1), (1, 11, 1), (1, 1, 11), (11, 11, 11)):
            steps, draws = flips(*many)
            steps += [(-1, op("<", slot(1), num(60))), (-1, op("<", slot(2), num(60))), (3, slot(0))]
            self.assertRaises(TooMuch, left_table, Opened(steps, draws, 4))

    def test_too_much_goes_ahead_of_never(self):
        never = op("<", num(60), slot(0))
        for many in ((1, 11), (11, 1)):
            steps, draws = flips(*many)
            sees = [(-1, never), (-1, op("<", slot(1), num(60)))]
            for one in (Opened(steps + sees + [(2, num(4))], draws, 3),
                        Opened(steps + sees + [(2, slot(0))], draws, 3),
                        Opened(steps + sees + [(2, slot(1))], draws, 3),
                        Opened(steps + sees[::-1] + [(2, num(4))], draws, 3)):
                self.assertRaises(TooMuch, left_table, one)

    def test_never_of_the_asks_part(self):
        for rows in (["let x = flip(1/2)", "see x", "see 1 - x", "ask x"],
                     ["let x = flip(1/2)", "see x = 2", "see flip(1/2)", "ask x"]):
            self.assertRaises(Never, left_table, opened_text(*rows))

    def test_never_of_another_part(self):
        for rows in (["see 0", "ask 1"], ["see flip(1/2) - 0 = 2", "ask flip(1/2)"], ["see {a: 1}", "ask 5"],
                     ["let x = flip(1/2)", "see x", "see 1 - x", "ask 3"],
                     ["see flip(1/2)", "let x = flip(1/2)", "see x = 2", "ask flip(1/2)"],
                     ["let x = flip(1/2)", "let y = flip(1/2)", "see y = 2", "see flip(1/2)", "see x", "ask x"]):
            self.assertRaises(Never, left_table, opened_text(*rows))

    def test_never_of_all_parts(self):
        self.assertRaises(Never, left_table, opened_text("let x = 0", "see 0", "see x", "ask x"))

    def test_what_is_told_is_the_askers_own(self):
        one = opened_text("let x = flip(1/3)", "see 1", "ask x")
        before = shape(one)
        left_table(one=one).clear()
        self.assertEqual(left_table(one), [(0, (2, 3)), (1, (1, 3))])
        self.assertEqual(shape(one), before)


if __name__ == "__main__":
    unittest.main()
