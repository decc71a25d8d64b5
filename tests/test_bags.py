"""The bags of a program and its cost: promises 29 and 30, and what promise 2 says of them."""

import unittest
from copy import deepcopy
from math import prod

from flipwright.bags import bags, cost
from flipwright.errors import TooMuch
from flipwright.leaning import leans
from flipwright.opening import Opened
from flipwright.ranges import factors, ranges
from making import HALF, THREE, answer, bind, draw, evenly, made_opened, num, op, opened_text, shape, slot

FOUR = ["let " + name + " = flip(1/2)" for name in "abcd"]


def slots_together(one):
    """For each step the set of the slots of its factor."""
    return [{one.steps[each][0] for each in places} | {number} - {-1}
            for (number, term), places in zip(one.steps, leans(one))]


def bags_by_pairs(one):
    """The bags by the words of promise 29: neighbours are kept as pairs, and looked up anew each time."""
    pairs = {frozenset((first, second)) for slots in slots_together(one) for first in slots for second in slots}
    there = {number for number, term in one.steps} - {-1}
    asked = one.steps[-1][0]
    out = []
    while there:
        around = {each: {other for other in there - {each} if frozenset((each, other)) in pairs} for each in there}
        fitting = there - {asked} or there
        least = min(len(around[each]) for each in fitting)
        chosen = min(each for each in fitting if len(around[each]) == least)
        pairs |= {frozenset((first, second)) for first in around[chosen] for second in around[chosen]}
        out.append((chosen, around[chosen]))
        there.remove(chosen)
    order = [chosen for chosen, around in out]
    return [(chosen, sorted(around | {chosen}), min([order.index(each) for each in around], default=None))
            for chosen, around in out]


def wide_program(many):
    """A see that leans on as many slots of six values, and the ask 5."""
    term = slot(0)
    for number in range(1, many):
        term = op("+", term, slot(number))
    steps = [(number, draw(number)) for number in range(many)]
    return Opened(steps + [(-1, term), (many, num(5))], [evenly(6)] * many, many + 1)


class TestBags(unittest.TestCase):
    def assert_bags(self, one, expected):
        self.assertEqual(bags(one), expected)
        self.assertEqual(bags_by_pairs(one), expected)

    def test_the_ask_alone(self):
        self.assert_bags(opened_text("ask 7"), [(0, [0], None)])
        self.assert_bags(Opened([(5, draw(1))], [HALF, HALF], 9), [(5, [5], None)])

    def test_a_chain(self):
        rows = ["let x = flip(1/2)", "again 2 x = x + flip(1/2)", "ask x"]
        self.assert_bags(opened_text(*rows), [(0, [0, 1], 1), (1, [1, 2], 2), (2, [2, 3], 3), (3, [3], None)])

    def test_a_step_that_leans_on_many(self):
        self.assert_bags(opened_text(*FOUR[:3], "ask a + b + c"), [
            (0, [0, 1, 2, 3], 1), (1, [1, 2, 3], 2), (2, [2, 3], 3), (3, [3], None)])

    def test_a_star_and_the_fewest_neighbours_first(self):
        rows = ["let x = flip(1/2)", "let a = x", "let b = x + 1", "let c = x + 2", "ask x"]
        self.assert_bags(opened_text(*rows), [
            (1, [0, 1], 3), (2, [0, 2], 3), (3, [0, 3], 3), (0, [0, 4], 4), (4, [4], None)])

    def test_the_neighbours_still_there_count(self):
        # At first 0 has three neighbours and 4 has two; once 1 and 2 are out, 0 has one.
        rows = ["let x = flip(1/2)", "let a = x", "let b = x", "let y = x", "let z = y + flip(1/2)",
                "let w = y + flip(1/2)", "see z + w", "ask y"]
        found = bags(opened_text(*rows))
        self.assertEqual(found, bags_by_pairs(opened_text(*rows)))
        self.assertEqual([number for number, bag, up in found], [1, 2, 0, 4, 5, 3, 6])

    def test_of_several_the_least(self):
        found = bags(opened_text(*FOUR, "ask 1"))
        self.assertEqual(found, [(number, [number], None) for number in range(5)])
        one = Opened([(3, draw(0)), (20, draw(1)), (100, draw(2)), (1000, num(1))], [HALF] * 3, 2000)
        self.assertEqual([number for number, bag, up in bags(one)], [3, 20, 100, 1000])

    def test_the_ask_is_last_where_it_has_the_fewest(self):
        self.assert_bags(opened_text("let x = flip(1/2)", "let y = x", "ask 7"), [
            (0, [0, 1], 1), (1, [1], None), (2, [2], None)])
        rows = FOUR + ["see a + b + c", "see b + c + d", "ask d"]
        self.assert_bags(opened_text(*rows), [
            (0, [0, 1, 2], 1), (1, [1, 2, 3], 2), (2, [2, 3], 3), (3, [3, 4], 4), (4, [4], None)])

    def test_neighbours_become_neighbours_of_each_other(self):
        rows = FOUR + ["see a + b", "see b + c", "see c + d", "see a + d", "ask 1"]
        self.assert_bags(opened_text(*rows), [
            (0, [0, 1, 3], 1), (1, [1, 2, 3], 2), (2, [2, 3], 3), (3, [3], None), (4, [4], None)])

    def test_up_is_the_neighbour_that_is_taken_out_first(self):
        # The slot 1 has the neighbours 0 and 2, and 2 is taken out ahead of 0.
        rows = ["let x = flip(1/2)", "let p = x + flip(1/2)", "let q = x + p", "let r = x", "let s = x", "ask x"]
        self.assert_bags(opened_text(*rows), [
            (3, [0, 3], 4), (4, [0, 4], 4), (1, [0, 1, 2], 3), (2, [0, 2], 4), (0, [0, 5], 5), (5, [5], None)])

    def test_slots_that_fall_apart(self):
        rows = ["let x = flip(1/2)", "let y = flip(1/2)", "let v = x + 1", "let w = y + 1", "see w", "ask v"]
        self.assert_bags(opened_text(*rows), [
            (0, [0, 2], 3), (1, [1, 3], 2), (3, [3], None), (2, [2, 4], 4), (4, [4], None)])

    def test_steps_on_which_nothing_hangs(self):
        self.assert_bags(opened_text("let x = flip(1/2)", "let y = 3", "see x", "ask x"), [
            (1, [1], None), (0, [0, 2], 2), (2, [2], None)])

    def test_sees_make_neighbours_and_have_no_bag(self):
        self.assert_bags(opened_text(*FOUR[:2], "ask 1"), [(0, [0], None), (1, [1], None), (2, [2], None)])
        self.assert_bags(opened_text(*FOUR[:2], "see a + b", "see 1", "see flip(1/2)", "ask 1"), [
            (0, [0, 1], 1), (1, [1], None), (2, [2], None)])

    def test_slots_that_a_bind_takes_are_in_no_bag(self):
        one = opened_text("def f(a, b) = a + b * a", "let x = f(flip(1/2), flip(1/3))", "see f(x, 2)", "ask f(1, x)")
        numbers = [number for number, term in one.steps]
        self.assertEqual(numbers, [2, -1, 7])
        self.assert_bags(one, [(2, [2, 7], 1), (7, [7], None)])
        one = Opened([(4, draw(0)), (6, bind(1, slot(4), bind(9, draw(1), op("+", slot(1), slot(9)))))],
                     [HALF, HALF], 10)
        self.assert_bags(one, [(4, [4, 6], 1), (6, [6], None)])

    def test_slots_of_the_way_not_gone_count(self):
        self.assert_bags(opened_text(*FOUR[:2], "ask if(1, a, b)"), [
            (0, [0, 1, 2], 1), (1, [1, 2], 2), (2, [2], None)])

    def test_made_programs(self):
        for depth in (1, 2, 3, 4):
            for one in made_opened(200, depth, 10 ** 6):
                self.assertEqual(bags(one), bags_by_pairs(one))

    def test_each_factors_slots_lie_in_one_bag(self):
        for one in made_opened(150, 3, 100):
            if answer(ranges, one) != TooMuch:
                found = [set(bag) for number, bag, up in bags(one)]
                for slots, rows in factors(one):
                    self.assertTrue(any(set(slots) <= bag for bag in found), slots)

    def test_the_bags_with_a_slot_hang_together_by_up(self):
        for one in made_opened(200, 3, 10 ** 6):
            found = bags(one)
            for number in [number for number, bag, up in found]:
                tops = [bag for each, bag, up in found if number in bag and (up is None or number not in found[up][1])]
                self.assertEqual(len(tops), 1)

    def test_nothing_is_refused(self):
        one = opened_text("let x = 0", "again 30 x = x + x + flip(1/2)", "see 0", "ask x")
        self.assertRaises(TooMuch, cost, one)
        self.assertEqual(len(bags(one)), 32)
        self.assertEqual(bags(wide_program(25))[0], (0, list(range(25)), 1))

    def test_many_steps(self):
        steps = [(0, draw(0))] + [(number, slot(number // 2)) for number in range(1, 120)]
        one = Opened(steps, [HALF], 120)
        self.assertEqual(bags(one), bags_by_pairs(one))

    def test_what_is_told_is_the_askers_own(self):
        one = opened_text("let x = flip(1/2)", "see x", "ask x")
        before = shape(one)
        found = bags(one=one)
        expected = deepcopy(found)
        for number, bag, up in found:
            bag.append("mine")
            self.assertEqual(bag.count("mine"), 1)
        found.clear()
        self.assertEqual(bags(one), expected)
        self.assertEqual(shape(one), before)


class TestCost(unittest.TestCase):
    def test_the_ask_alone(self):
        self.assertEqual(cost(opened_text("ask 7")), 1)
        self.assertEqual(cost(opened_text("ask pick(1:1, 2:1, 3:1)")), 3)

    def test_chains(self):
        # Bags of 2, 3 and of 3, 4 values, then of 4, 4, and the ask's.
        rows = ["let x = flip(1/2)", "again 2 x = x + flip(1/2)", "ask x"]
        self.assertEqual(cost(opened_text(*rows)), 2 * 3 + 3 * 4 + 4 * 4 + 4)
        rows = ["let x = 0", "again 30 x = x + flip(1/2)", "ask x"]
        self.assertEqual(cost(opened_text(*rows)), sum(n * (n + 1) for n in range(1, 31)) + 31 * 31 + 31)

    def test_a_star(self):
        rows = ["let x = pick(1:1, 2:1, 5:1)", "let a = x + flip(1/2)", "let b = x = 1", "ask x"]
        self.assertEqual(cost(opened_text(*rows)), 3 * 5 + 3 * 2 + 3 * 3 + 3)

    def test_a_step_that_leans_on_many(self):
        rows = FOUR[:3] + ["let d = pick(1:1, 2:1, 3:1)", "ask a + b + c + d"]
        self.assertEqual(cost(opened_text(*rows)), 2 * 2 * 2 * 3 * 6 + 2 * 2 * 3 * 6 + 2 * 3 * 6 + 3 * 6 + 6)

    def test_slots_that_fall_apart(self):
        rows = ["let x = pick(1:1, 2:1, 3:1)", "let y = flip(1/2)", "let z = flip(1/2) + flip(1/2)", "see z", "ask y"]
        self.assertEqual(cost(opened_text(*rows)), 3 + 3 + 2 * 2 + 2)

    def test_what_is_seen_costs_by_its_neighbours_alone(self):
        self.assertEqual(cost(opened_text(*FOUR[:2], "ask 1")), 2 + 2 + 1)
        self.assertEqual(cost(opened_text(*FOUR[:2], "see a + b", "see 0", "ask 1")), 2 * 2 + 2 + 1)

    def test_bound_slots_cost_nothing(self):
        self.assertEqual(cost(opened_text("def f(a) = a = 1", "ask f(pick(1:1, 2:1, 3:1))")), 2)

    def test_made_programs(self):
        for one in made_opened(200, 3, 24):
            spread = answer(ranges, one)
            if spread == TooMuch:
                self.assertRaises(TooMuch, cost, one)
            else:
                sizes = {number: len(values) for number, values in spread}
                self.assertEqual(cost(one), sum(prod(sizes[each] for each in bag)
                                                for number, bag, up in bags_by_pairs(one)))

    def test_a_great_cost_is_told(self):
        steps = [(number, draw(number)) for number in range(40)]
        sees = [(-1, op("=", slot(one), slot(other))) for one in range(40) for other in range(one)]
        found = cost(Opened(steps + sees[:79] + [(40, num(1))], [THREE] * 40, 41))
        self.assertGreater(found, 20000)
        whole = Opened(steps + sees + [(40, num(1))], [THREE] * 40, 41)
        self.assertEqual(cost(whole), sum(3 ** many for many in range(1, 41)) + 1)

    def test_too_much_of_the_ranges(self):
        self.assertEqual(cost(wide_program(5)), 6 ** 5 + 6 ** 4 + 6 ** 3 + 6 ** 2 + 6 + 1)
        self.assertRaises(TooMuch, cost, wide_program(6))
        self.assertRaises(TooMuch, cost, opened_text("let x = 0", "again 30 x = x + x + flip(1/2)", "ask x"))

    def test_just_20000_and_one_above_it(self):
        for first, second, refused in ((125, 160, False), (177, 113, True)):
            steps = [(0, draw(0)), (-1, op("<", slot(0), draw(1))), (2, num(5))]
            one = Opened(steps, [evenly(first), evenly(second)], 3)
            self.assertEqual(answer(cost, one), TooMuch if refused else first + 1)

    def test_never_is_not_refused(self):
        self.assertEqual(cost(opened_text("see 0", "ask flip(1/2)")), 2)

    def test_nothing_handed_in_is_changed(self):
        one = opened_text(*FOUR, "see a + c", "ask b")
        before = shape(one)
        self.assertEqual(cost(one=one), cost(one))
        self.assertEqual(shape(one), before)


if __name__ == "__main__":
    unittest.main()
