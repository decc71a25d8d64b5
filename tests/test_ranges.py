"""The ranges of a program and the factors of its steps: promises 27 and 28, and what promises 2 and 3 say of them."""

import unittest
from copy import deepcopy
from fractions import Fraction
from itertools import product
from math import prod

from flipwright.errors import TooMuch
from flipwright.leaning import leans
from flipwright.opening import Opened, bound_of
from flipwright.ranges import factors, ranges
from flipwright.running import Listed, counted, told
from flipwright.tables import in_order, rank
from making import (A1, AB, HALF, THIRD, THREE, answer, as_table, bind, draw, evenly, made_opened, num, op, opened_text,
                    row_share, rows_of_choices, shape, slot, table_by_rows)


def leaned(one, place):
    return [one.steps[each][0] for each in leans(one)[place]]


def products(one):
    """For each step the product that must not be above 20000, or None from the first on that is."""
    sizes, found = {}, []
    for place, (number, term) in enumerate(one.steps):
        found.append(bound_of(term, one.draws) * prod(len(sizes[each]) for each in leaned(one, place)))
        if found[-1] > 20000:
            return None
        sizes[number] = values_by_rows(one, place, sizes)
    return found


def values_by_rows(one, place, spread):
    """All values of a step's term, by all rows of choices and all values that the slots it leans on may hold."""
    slots = leaned(one, place)
    return in_order([told(one.steps[place][1], dict(zip(slots, values)), one.draws, Listed(row))
                     for values in product(*[spread[each] for each in slots]) for row in rows_of_choices(one.draws)])


def ranges_by_rows(one):
    spread = {}
    for place, step in enumerate(one.steps):
        if step[0] != -1:
            spread[step[0]] = values_by_rows(one, place, spread)
    return list(spread.items())


def factor_by_rows(one, place, spread):
    number, term = one.steps[place]
    slots = leaned(one, place)
    shares = {}
    for values in product(*[spread[each] for each in slots]):
        for row in rows_of_choices(one.draws):
            value = told(term, dict(zip(slots, values)), one.draws, Listed(row))
            if number != -1 or counted(value) != 0:
                key = values if number == -1 else values + (value,)
                shares[key] = shares.get(key, 0) + row_share(one.draws, row)
    ordered = sorted(shares, key=lambda values: [rank(value) for value in values])
    return (slots + [number] if number != -1 else slots,
            [(values, (shares[values].numerator, shares[values].denominator)) for values in ordered])


def joined_table(one):
    """The program's table by all rows of values for all slots, each with the product of the factors' shares."""
    spread = ranges(one)
    found = [(slots, dict(rows)) for slots, rows in factors(one)]
    shares = {}
    for values in product(*[each for number, each in spread]):
        held = dict(zip([number for number, each in spread], values))
        share = prod((Fraction(*rows.get(tuple(held[each] for each in slots), (0, 1))) for slots, rows in found),
                     start=Fraction(1))
        if share:
            shares[values[-1]] = shares.get(values[-1], 0) + share
    whole = sum(shares.values())
    return as_table({value: share / whole for value, share in shares.items()})


def hundred(first):
    """A term that tells each of 0 to 99, by three draws from this one on."""
    return op("+", op("+", draw(first), op("*", draw(first + 1), num(5))), op("*", draw(first + 2), num(25)))


HUNDRED_DRAWS = [evenly(5), evenly(5), evenly(4)]


def two_hundreds(last):
    """Two slots with 100 values each, then the steps told by these, with draws of two and of three outcomes behind."""
    return Opened([(0, hundred(0)), (1, hundred(3))] + last, HUNDRED_DRAWS * 2 + [HALF, THREE], 9)


class TestRanges(unittest.TestCase):
    def test_steps_that_lean_on_none(self):
        self.assertEqual(ranges(opened_text("ask 7")), [(0, [7])])
        rows = ["let x = pick(9:1, 3:5, 4:1)", "ask flip(1/2)"]
        self.assertEqual(ranges(opened_text(*rows)), [(0, [3, 4, 9]), (1, [0, 1])])

    def test_steps_that_lean_on_one(self):
        rows = ["let x = pick(9:1, 3:5, 4:1)", "let y = rest(x, 3)", "ask x * flip(1/2)"]
        self.assertEqual(ranges(opened_text(*rows)), [(0, [3, 4, 9]), (1, [0, 1]), (2, [0, 3, 4, 9])])

    def test_steps_that_lean_on_several(self):
        rows = ["let x = pick(1:1, 2:1)", "let y = pick(10:1, 20:1)", "ask x + y"]
        self.assertEqual(ranges(opened_text(*rows)), [(0, [1, 2]), (1, [10, 20]), (2, [11, 12, 21, 22])])
        rows = ["let x = pick(1:1, 2:1)", "let y = pick(10:1, 20:1)", "let z = flip(1/2)", "ask if(z, x, y) + z"]
        self.assertEqual(ranges(opened_text(*rows))[3], (3, [2, 3, 10, 20]))

    def test_each_slot_from_its_own_range(self):
        # No run has x = 1 and y = 5, as y is 4 + x; but each may hold what its range has.
        rows = ["let x = flip(1/2)", "let y = x + 4", "ask y - x"]
        self.assertEqual(ranges(opened_text(*rows)), [(0, [0, 1]), (1, [4, 5]), (2, [3, 4, 5])])

    def test_what_is_seen_changes_no_range(self):
        rows = ["let x = pick(1:1, 2:1, 3:1)", "see x = 2", "see 0", "ask x"]
        self.assertEqual(ranges(opened_text(*rows)), [(0, [1, 2, 3]), (1, [1, 2, 3])])

    def test_values_in_order_each_once(self):
        rows = ["let x = if(flip(1/2), {b: flip(1/2), a: 2}, pick(50:1, 6:1, 0:1))", "ask if(flip(1/3), x, {a: 1})"]
        records = [(("a", 2), ("b", 0)), (("a", 2), ("b", 1))]
        self.assertEqual(ranges(opened_text(*rows)), [(0, [0, 6, 50] + records), (1, [0, 6, 50, A1] + records)])
        self.assertEqual(ranges(opened_text("ask flip(1/2) + flip(1/2) + flip(1/2)")), [(0, [0, 1, 2, 3])])

    def test_only_what_a_term_can_tell(self):
        self.assertEqual(ranges(opened_text("ask if(0, pick(1:1, 2:1), 3)")), [(0, [3])])
        self.assertEqual(ranges(opened_text("let x = 4", "ask if(x, x, flip(1/2))")), [(0, [4]), (1, [4])])

    def test_binds(self):
        one = opened_text("def f(a, b) = a * b + a", "let x = pick(2:1, 3:1)", "ask f(x, flip(1/2))")
        self.assertEqual(ranges(one), [(0, [2, 3]), (3, [2, 3, 4, 6])])
        one = Opened([(4, bind(1, draw(1), op("+", slot(1), slot(1)))), (-1, slot(4)), (6, slot(4))],
                     [HALF, THREE, HALF], 7)
        self.assertEqual(ranges(one), [(4, [14, 16, 18]), (6, [14, 16, 18])])

    def test_long_chains(self):
        one = opened_text("let x = 0", "again 30 x = x + flip(1/2)", "again 30 x = x + flip(1/2)", "ask x")
        self.assertEqual(ranges(one), [(turn, list(range(turn + 1))) for turn in range(61)] + [(61, list(range(61)))])

    def test_made_programs(self):
        for depth in (1, 2, 3):
            for one in made_opened(120, depth, 24):
                if products(one) is None:
                    self.assertRaises(TooMuch, ranges, one)
                else:
                    self.assertEqual(ranges(one), ranges_by_rows(one))

    def test_what_is_told_is_the_askers_own(self):
        one = opened_text("let x = flip(1/2)", "let y = x", "ask x")
        before = shape(one)
        found = ranges(one=one)
        for number, values in found:
            values.append("mine")
            self.assertEqual(values.count("mine"), 1)
        found.clear()
        self.assertEqual(ranges(one), [(0, [0, 1]), (1, [0, 1]), (2, [0, 1])])
        self.assertEqual(shape(one), before)


class TestTooMuch(unittest.TestCase):
    def assert_told(self, one):
        self.assertEqual(len(factors(one)), len(one.steps))
        self.assertEqual(len(ranges(one)), len([step for step in one.steps if step[0] != -1]))

    def assert_too_much(self, one):
        self.assertRaises(TooMuch, ranges, one)
        self.assertRaises(TooMuch, factors, one)

    def kinds_of_steps(self, term):
        """Programs in which a let, the ask and a see have this term."""
        return [two_hundreds([(2, term), (3, num(5))]), two_hundreds([(2, term)]),
                two_hundreds([(-1, term), (2, num(5))])]

    def test_just_20000(self):
        for one in self.kinds_of_steps(op("+", op("<", slot(0), slot(1)), draw(6))):
            self.assert_told(one)

    def test_more_than_20000(self):
        for one in self.kinds_of_steps(op("+", op("<", slot(0), slot(1)), draw(7))):
            self.assert_too_much(one)
        for one in self.kinds_of_steps(op("<", slot(0), op("*", slot(1), op("+", draw(6), draw(7))))):
            self.assert_too_much(one)

    def test_one_above_20000(self):
        for first, second, refused in ((125, 160, False), (177, 113, True)):
            for place in range(3):
                term = op("<", slot(0), draw(1))
                steps = [(0, draw(0)), (-1 if place == 2 else 1, term), (2, num(5))][:2 if place == 1 else 3]
                one = Opened(steps, [evenly(first), evenly(second)], 3)
                if refused:
                    self.assert_too_much(one)
                else:
                    self.assert_told(one)

    def test_a_slot_read_twice_counts_once(self):
        self.assert_told(two_hundreds([(2, op("+", op("<", slot(0), slot(1)), op("*", slot(0), num(0))))]))
        self.assert_told(two_hundreds([(-1, op("<", op("+", slot(0), slot(0)), slot(1))), (2, num(1))]))

    def test_the_bound_counts_not_the_ways(self):
        term = num(0)
        for site in range(15):
            term = op("+", term, draw(site))
        for test in (num(0), slot(0)):
            steps = [(0, num(0)), (1, ("if", test, term, num(5)))]
            self.assert_too_much(Opened(steps, [HALF] * 15, 2))
            self.assert_too_much(Opened([steps[0], (-1, steps[1][1]), (1, num(3))], [HALF] * 15, 2))
        self.assert_too_much(Opened([(0, term)], [HALF] * 15, 1))

    def test_slots_of_the_way_not_gone_count(self):
        self.assert_too_much(two_hundreds([(2, ("if", num(1), draw(7), op("+", slot(0), slot(1))))]))

    def test_the_ranges_count_not_the_bounds_above(self):
        term = num(0)
        for site in range(14):
            term = op("+", term, draw(site))
        one = Opened([(0, term), (1, op("*", slot(0), num(2))), (2, op("+", slot(0), slot(1)))], [HALF] * 14, 3)
        self.assertEqual(ranges(one)[2], (2, list(range(43))))

    def test_values_that_stand_in_no_step_further_down(self):
        # Each step by itself is small, whatever the product of all of them.
        rows = ["let x = pick(0:1, 1:1, 2:1, 3:1, 4:1, 5:1)"] * 20 + ["ask x"]
        self.assert_told(opened_text(*rows))

    def test_a_see_alone(self):
        rows = ["let x = pick(0:1, 1:1, 2:1, 3:1, 4:1, 5:1)", "def f() = pick(0:1, 1:1, 2:1, 3:1, 4:1, 5:1)"]
        self.assert_told(opened_text(*rows, "see x + f() + f() + f() + f()", "ask 1"))
        self.assert_too_much(opened_text(*rows, "see x + f() + f() + f() + f() + f()", "ask 1"))
        self.assert_too_much(opened_text(*rows, "see 0", "see x + f() + f() + f() + f() + f()", "ask 1"))

    def test_far_too_much(self):
        # Neither the rows nor the ways can be gone through here.
        self.assert_too_much(opened_text("let x = 0", "again 30 x = x + x + flip(1/2)", "ask x"))
        steps, term = [(0, draw(0))], slot(0)
        for number in range(1, 25):
            steps.append((number, draw(number)))
            term = op("+", term, slot(number))
        for last in ([(25, term)], [(-1, term), (25, num(1))]):
            self.assert_too_much(Opened(steps + last, [evenly(6)] * 25, 26))

    def test_never_is_not_refused(self):
        one = opened_text("see 0", "ask flip(1/2)")
        self.assertEqual(ranges(one), [(0, [0, 1])])
        self.assertEqual(factors(one)[0], ([], []))


class TestFactors(unittest.TestCase):
    def test_a_let_without_slots(self):
        self.assertEqual(factors(opened_text("let x = pick(9:3, 3:2, 4:1)", "ask 7")), [
            ([0], [((3,), (1, 3)), ((4,), (1, 6)), ((9,), (1, 2))]), ([1], [((7,), (1, 1))])])

    def test_a_let_and_the_ask(self):
        rows = ["let x = flip(1/3)", "let y = if(x, flip(9/10), flip(1/10))", "ask x + y"]
        self.assertEqual(factors(opened_text(*rows)), [
            ([0], [((0,), (2, 3)), ((1,), (1, 3))]),
            ([0, 1], [((0, 0), (9, 10)), ((0, 1), (1, 10)), ((1, 0), (1, 10)), ((1, 1), (9, 10))]),
            ([0, 1, 2], [((0, 0, 0), (1, 1)), ((0, 1, 1), (1, 1)), ((1, 0, 1), (1, 1)), ((1, 1, 2), (1, 1))])])

    def test_a_see(self):
        rows = ["let x = pick(5:1, 0:1, 7:1)", "see x", "see flip(1/4) + (x = 5)", "see flip(1/4) * x", "ask 3"]
        self.assertEqual(factors(opened_text(*rows))[1:], [
            ([0], [((5,), (1, 1)), ((7,), (1, 1))]),
            ([0], [((0,), (1, 4)), ((5,), (1, 1)), ((7,), (1, 4))]),
            ([0], [((5,), (1, 4)), ((7,), (1, 4))]),
            ([1], [((3,), (1, 1))])])

    def test_a_see_without_slots(self):
        rows = ["see 1", "see 0", "see flip(1/3)", "see pick(5:1, 0:2, 7:1, 8:2)", "see {a: 1}", "ask 3"]
        self.assertEqual(factors(opened_text(*rows)), [
            ([], [((), (1, 1))]), ([], []), ([], [((), (1, 3))]), ([], [((), (2, 3))]), ([], []),
            ([0], [((3,), (1, 1))])])

    def test_a_see_that_counts_what_it_tells(self):
        # Records count 0; what a see tells adds up over all that doesn't.
        rows = ["let x = flip(1/2)", "see if(x, {a: 1}, pick(0:1, 4:2, 9:3))", "ask x"]
        self.assertEqual(factors(opened_text(*rows))[1], ([0], [((0,), (5, 6))]))

    def test_slots_sorted(self):
        rows = ["let x = flip(1/2)", "let y = 5", "let z = flip(1/3)", "see z + x", "ask z - x"]
        found = factors(opened_text(*rows))
        self.assertEqual([slots for slots, row in found], [[0], [1], [2], [0, 2], [0, 2, 3]])
        self.assertEqual(found[3][1], [((0, 1), (1, 1)), ((1, 0), (1, 1)), ((1, 1), (1, 1))])
        one = Opened([(4, draw(0)), (11, draw(2)), (-1, op("+", slot(11), slot(4))), (20, op("<", slot(11), slot(4)))],
                     [HALF, HALF, THIRD], 30)
        self.assertEqual([slots for slots, row in factors(one)], [[4], [11], [4, 11], [4, 11, 20]])

    def test_bound_slots_are_none(self):
        one = opened_text("def f(a, b) = a * b", "let x = flip(1/3)", "ask f(x, flip(1/2))")
        self.assertEqual(factors(one), [([0], [((0,), (2, 3)), ((1,), (1, 3))]),
                                        ([0, 3], [((0, 0), (1, 1)), ((1, 0), (1, 2)), ((1, 1), (1, 2))])])

    def test_rows_in_the_order_of_their_values(self):
        rows = ["let x = if(flip(1/2), {b: 5, a: 1}, pick(10:1, 9:1))", "let y = if(flip(1/2), x, {a: 1})", "ask y"]
        found = factors(opened_text(*rows))
        self.assertEqual([values for values, share in found[0][1]], [(9,), (10,), (AB,)])
        self.assertEqual([values for values, share in found[1][1]],
                         [(9, 9), (9, A1), (10, 10), (10, A1), (AB, A1), (AB, AB)])
        self.assertEqual([values for values, share in found[2][1]], [(9, 9), (10, 10), (A1, A1), (AB, AB)])

    def test_alike_values_add_up(self):
        self.assertEqual(factors(opened_text("ask flip(1/2) + flip(1/2)")),
                         [([0], [((0,), (1, 4)), ((1,), (1, 2)), ((2,), (1, 4))])])

    def test_what_is_seen_changes_no_other_factor(self):
        rows = ["let x = flip(1/3)", "see x", "ask x"]
        self.assertEqual(factors(opened_text(*rows))[0], ([0], [((0,), (2, 3)), ((1,), (1, 3))]))

    def test_made_programs(self):
        seen = 0
        for depth in (1, 2, 3):
            for one in made_opened(120, depth, 24):
                if products(one) is None:
                    self.assertRaises(TooMuch, factors, one)
                    continue
                spread = dict(ranges(one))
                expected = [factor_by_rows(one, place, spread) for place in range(len(one.steps))]
                self.assertEqual(factors(one), expected)
                seen += 1
        self.assertGreater(seen, 200)

    def test_shares_of_the_same_other_values_add_up_to_one(self):
        for one in made_opened(100, 3, 1000):
            if answer(ranges, one) == TooMuch:
                continue
            spread = dict(ranges(one))
            for (number, term), (slots, rows) in zip(one.steps, factors(one)):
                self.assertTrue(all((0, 1) != share for values, share in rows))
                if number == -1:
                    continue
                wholes = {}
                for values, share in rows:
                    wholes[values[:-1]] = wholes.get(values[:-1], 0) + Fraction(*share)
                self.assertEqual(set(wholes.values()), {1})
                self.assertEqual(set(wholes), set(product(*[spread[each] for each in slots[:-1]])))

    def test_all_factors_together_tell_the_table(self):
        told_of = 0
        for one in made_opened(150, 2, 100):
            spread = answer(ranges, one)
            if spread == TooMuch or prod(len(values) for number, values in spread) > 1500:
                continue
            self.assertEqual(joined_table(one), table_by_rows(one))
            told_of += 1
        self.assertGreater(told_of, 150)

    def test_what_is_told_is_the_askers_own(self):
        one = opened_text("let x = flip(1/2)", "see x", "see 1", "ask x")
        before = shape(one)
        found = factors(one=one)
        expected = deepcopy(found)
        for slots, rows in found:
            slots.append("mine")
            rows.append("mine")
            self.assertEqual((slots.count("mine"), rows.count("mine")), (1, 1))
        found.clear()
        self.assertEqual(factors(one), expected)
        self.assertEqual(shape(one), before)
        found = factors(one)
        one.steps.clear()
        one.draws[0].clear()
        self.assertEqual(found, expected)


if __name__ == "__main__":
    unittest.main()
