"""The filled bags, the slots' tables and the bags' table: promise 31, and what promises 2 and 3 say of them."""

import random
import unittest
from copy import deepcopy
from fractions import Fraction
from math import comb

from flipwright.bags import bags, cost
from flipwright.errors import FlipError, Never, TooMuch
from flipwright.messages import bags_table, filled, slot_tables
from flipwright.opening import Opened, bound
from flipwright.plain import plain_table
from flipwright.tables import rank
from flipwright.weighing import graph_table
from making import (A1, AB, HALF, THIRD, THREE, answer, as_table, bind, draw, evenly, made_opened, num, op, opened_text,
                    runs_by_rows, shape, slot, table_by_rows)

TELLERS = (filled, slot_tables, bags_table)


def filled_by_rows(one):
    """The filled bags by runs with every row of choices; None where no run has all that is seen."""
    runs = runs_by_rows(one)
    whole = sum(share for held, share in runs)
    if not whole:
        return None
    found = []
    for number, bag, up in bags(one):
        shares = {}
        for held, share in runs:
            values = tuple(held[each] for each in bag)
            shares[values] = shares.get(values, 0) + share / whole
        ordered = sorted(shares, key=lambda values: [rank(value) for value in values])
        found.append((bag, [(values, (shares[values].numerator, shares[values].denominator)) for values in ordered]))
    return found


def slot_tables_by_rows(one):
    runs = runs_by_rows(one)
    whole = sum(share for held, share in runs)
    found = {}
    for held, share in runs:
        for number, value in held.items():
            shares = found.setdefault(number, {})
            shares[value] = shares.get(value, 0) + share / whole
    return [(number, as_table(found[number])) for number in sorted(found)]


def made_network(seed):
    """A program of some steps that lean on up to three others each, and sees of two of them."""
    chance = random.Random(seed)
    steps, draws = [], []
    for number in range(7):
        term = draw(number)
        draws.append([(value, chance.randint(1, 4)) for value in chance.sample(range(3), chance.choice([2, 2, 3]))])
        for each in chance.sample(range(number), min(number, chance.choice([0, 1, 2, 3]))):
            term = op(chance.choice("+*<="), term, slot(each))
        steps.append((number, ("rest", term, 3)))
        if number > 1 and chance.randrange(3) == 0:
            first, second = chance.sample(range(number), 2)
            steps.append((-1, op(chance.choice("+<="), slot(first), slot(second))))
    return Opened(steps + [(7, slot(chance.randrange(7)))], draws, 8)


def marginal(bag, rows, slots):
    """What the rows of a filled bag tell of these slots of it."""
    shares = {}
    for values, share in rows:
        key = tuple(values[bag.index(each)] for each in slots)
        shares[key] = shares.get(key, 0) + Fraction(*share)
    return shares


def priced(last, *sees):
    """A program with a cost of 19740 and the number of the ask's outcomes."""
    see = (-1, op("<", slot(0), op("+", slot(1), num(200))))
    steps = [(0, draw(0)), (1, draw(1)), see] + list(sees) + [(2, draw(2))]
    return Opened(steps, [evenly(140), evenly(140), evenly(last)], 3)


class TestFilled(unittest.TestCase):
    def test_the_ask_alone(self):
        self.assertEqual(filled(opened_text("ask 7")), [([0], [((7,), (1, 1))])])
        self.assertEqual(filled(opened_text("ask pick(9:1, 4:3)")), [([0], [((4,), (3, 4)), ((9,), (1, 4))])])

    def test_what_is_seen_below_counts_above(self):
        rows = ["let sick = flip(1/100)", "let sign = if(sick, flip(9/10), flip(1/10))", "see sign", "ask sick"]
        self.assertEqual(filled(opened_text(*rows)), [
            ([0, 1], [((0, 1), (11, 12)), ((1, 1), (1, 12))]),
            ([0, 2], [((0, 0), (11, 12)), ((1, 1), (1, 12))]),
            ([2], [((0,), (11, 12)), ((1,), (1, 12))])])

    def test_what_is_seen_above_counts_below(self):
        rows = ["let x = flip(1/3)", "see x", "let y = x + flip(1/2)", "let z = y", "ask 4"]
        self.assertEqual(filled(opened_text(*rows)), [
            ([0, 1], [((1, 1), (1, 2)), ((1, 2), (1, 2))]),
            ([1, 2], [((1, 1), (1, 2)), ((2, 2), (1, 2))]),
            ([2], [((1,), (1, 2)), ((2,), (1, 2))]),
            ([3], [((4,), (1, 1))])])

    def test_what_is_seen_by_chance(self):
        rows = ["let x = pick(0:1, 1:1, 2:2)", "see if(x, flip(1/4), 1)", "ask 4"]
        self.assertEqual(filled(opened_text(*rows))[0], ([0], [((0,), (4, 7)), ((1,), (1, 7)), ((2,), (2, 7))]))

    def test_bags_in_their_order(self):
        rows = ["let x = flip(1/2)", "let a = x", "let b = x + 1", "let c = 4", "ask x"]
        one = opened_text(*rows)
        self.assertEqual([bag for bag, row in filled(one)], [bag for number, bag, up in bags(one)])
        self.assertEqual([bag for bag, row in filled(one)], [[3], [0, 1], [0, 2], [0, 4], [4]])

    def test_rows_in_the_order_of_their_values(self):
        rows = ["let x = if(flip(1/2), {b: 5, a: 1}, pick(10:1, 9:1))", "let y = if(flip(1/2), x, {a: 1})", "ask y"]
        found = filled(opened_text(*rows))
        self.assertEqual([values for values, share in found[0][1]],
                         [(9, 9), (9, A1), (10, 10), (10, A1), (AB, A1), (AB, AB)])
        self.assertEqual([values for values, share in found[1][1]], [(9, 9), (10, 10), (A1, A1), (AB, AB)])

    def test_rows_that_never_come_are_left_out(self):
        # The ranges of x and y have five values each; what is seen leaves a few rows of them.
        rows = ["let x = pick(0:1, 1:1, 2:1, 3:1, 4:1)", "let y = pick(0:1, 1:1, 2:1, 3:1, 4:1)", "see x + y = 1",
                "see x < 4", "ask x * y"]
        found = filled(opened_text(*rows))
        self.assertEqual(found[0], ([0, 1, 2], [((0, 1, 0), (1, 2)), ((1, 0, 0), (1, 2))]))
        self.assertEqual(found[1:], [([1, 2], [((0, 0), (1, 2)), ((1, 0), (1, 2))]), ([2], [((0,), (1, 1))])])

    def test_slots_that_fall_apart(self):
        rows = ["let x = flip(1/3)", "let y = x + flip(1/2)", "see y", "let v = pick(1:1, 2:1, 3:1)", "see v < 3",
                "ask 8"]
        self.assertEqual(filled(opened_text(*rows)), [
            ([2], [((1,), (1, 2)), ((2,), (1, 2))]),
            ([0, 1], [((0, 1), (1, 2)), ((1, 1), (1, 4)), ((1, 2), (1, 4))]),
            ([1], [((1,), (3, 4)), ((2,), (1, 4))]),
            ([3], [((8,), (1, 1))])])

    def test_a_ring_of_sees(self):
        lets = ["let " + name + " = flip(1/3)" for name in "abcd"]
        one = opened_text(*lets, "see a + b", "see b + c", "see c + d", "see a + d", "ask a + c")
        self.assertEqual(filled(one), filled_by_rows(one))

    def test_sees_on_which_nothing_hangs(self):
        expected = [([0], [((3,), (1, 1))])]
        for see in ("see 1", "see flip(1/9)", "see flip(1/9) + 1", "see pick(0:5, 7:1) * 2", "see {a: 3}.a"):
            self.assertEqual(filled(opened_text(see, "ask 3")), expected)
        for see in ("see 0", "see {a: 3}", "see flip(1/9) = 2", "see flip(1/9) * 0", "see 3 - 3"):
            for rows in ([see, "ask 3"], ["see 1", see, "see 1", "ask 3"],
                         ["let x = flip(1/2)", "see x", see, "ask x"]):
                for teller in TELLERS:
                    self.assertRaises(Never, teller, opened_text(*rows))

    def test_sees_that_nothing_of_the_ask_hangs_together_with(self):
        rows = ["let x = flip(1/3)", "let y = flip(1/3)"]
        one = opened_text(*rows, "see x", "ask y")
        self.assertEqual(filled(one), [([0], [((1,), (1, 1))]), ([1, 2], [((0, 0), (2, 3)), ((1, 1), (1, 3))]),
                                       ([2], [((0,), (2, 3)), ((1,), (1, 3))])])
        for teller in TELLERS:
            self.assertRaises(Never, teller, opened_text(*rows, "see x = 2", "ask y"))

    def test_never(self):
        for rows in (["let x = flip(1/2)", "see x", "see 1 - x", "ask x"],
                     ["let x = flip(1/2)", "let y = x", "let z = x", "see y", "see 1 - z", "ask 3"],
                     ["let x = flip(1/2)", "let y = x + flip(1/2)", "see y = 2", "see x = 0", "ask y"],
                     ["let x = 0", "again 10 x = x + flip(1/2)", "see x = 11", "ask x"]):
            for teller in TELLERS:
                self.assertRaises(Never, teller, opened_text(*rows))

    def test_draws_and_binds_such_as_no_text_opens_to(self):
        term = bind(9, draw(1), op("+", bind(9, draw(2), slot(9)), slot(9)))
        one = Opened([(4, term), (-1, op("<", slot(4), num(9))), (7, op("*", slot(4), slot(4)))],
                     [HALF, THIRD, THREE, HALF], 10)
        self.assertEqual(filled(one), filled_by_rows(one))
        self.assertEqual(slot_tables(one), slot_tables_by_rows(one))

    def test_made_programs(self):
        seen = {Never: 0, list: 0}
        for depth in (1, 2, 3, 4):
            for one in made_opened(200, depth, 150):
                found = answer(filled, one)
                if found == TooMuch:
                    continue
                expected = filled_by_rows(one)
                self.assertEqual(found, Never if expected is None else expected)
                seen[Never if expected is None else list] += 1
        self.assertGreater(seen[Never], 50)
        self.assertGreater(seen[list], 500)

    def test_made_networks(self):
        widths = set()
        for seed in range(25):
            one = made_network(seed)
            expected = filled_by_rows(one)
            self.assertEqual(answer(filled, one), Never if expected is None else expected)
            widths.update(len(bag) for number, bag, up in bags(one))
        self.assertGreaterEqual(max(widths), 4)

    def test_shares_add_up_to_one_and_rows_are_no_more_than_the_cost(self):
        for one in made_opened(300, 3, 10 ** 5):
            found = answer(filled, one)
            if isinstance(found, list):
                self.assertLessEqual(sum(len(rows) for bag, rows in found), cost(one))
                for bag, rows in found:
                    self.assertEqual(sum(Fraction(*share) for values, share in rows), 1)
                    self.assertTrue(all(share > (0, 1) for values, share in rows))

    def test_neighbouring_bags_agree(self):
        agreed = 0
        for one in made_opened(300, 3, 10 ** 5):
            found = answer(filled, one)
            if not isinstance(found, list):
                continue
            for (bag, rows), (number, each, up) in zip(found, bags(one)):
                self.assertEqual(bag, each)
                if up is not None:
                    both = sorted(set(bag) & set(found[up][0]))
                    self.assertEqual(marginal(bag, rows, both), marginal(found[up][0], found[up][1], both))
                    agreed += 1
        self.assertGreater(agreed, 300)

    def test_what_is_told_is_the_askers_own(self):
        one = opened_text("let x = flip(1/3)", "see x + flip(1/2)", "see 1", "ask x")
        before = shape(one)
        for teller in TELLERS:
            found = teller(one=one)
            expected = deepcopy(found)
            if teller != bags_table:
                for first, second in found:
                    second.append("mine")
                    self.assertEqual(second.count("mine"), 1)
            if teller == filled:
                for bag, rows in found:
                    bag.append("mine")
                    self.assertEqual(bag.count("mine"), 1)
            found.clear()
            self.assertEqual(teller(one), expected)
            self.assertEqual(shape(one), before)


class TestTooMuch(unittest.TestCase):
    def test_a_cost_of_just_20000_and_one_above_it(self):
        one = priced(260)
        self.assertEqual(cost(one), 20000)
        for teller in TELLERS:
            self.assertEqual(len(teller(one)), 260 if teller == bags_table else 3)
        one = priced(261)
        self.assertEqual(cost(one), 20001)
        for teller in TELLERS:
            self.assertRaises(TooMuch, teller, one)

    def test_too_much_goes_ahead_of_never(self):
        for never in ((-1, num(0)), (-1, op("<", num(500), slot(0)))):
            for teller in TELLERS:
                self.assertRaises(Never, teller, priced(260, never))
                self.assertRaises(TooMuch, teller, priced(261, never))
                one = priced(261)
                self.assertRaises(TooMuch, teller, Opened(one.steps[:2] + [never] + one.steps[2:], one.draws, 3))

    def test_too_much_of_the_ranges(self):
        far = opened_text("let x = 0", "again 30 x = x + x + flip(1/2)", "ask x")
        seen = opened_text("see 0", "let x = 0", "again 30 x = x + x + flip(1/2)", "ask x")
        # The cost is small here, but not the product of a see.
        see = Opened([(0, draw(0)), (-1, op("<", slot(0), draw(1))), (-1, num(0)), (2, num(5))],
                     [evenly(177), evenly(113)], 3)
        for one in (far, seen, see):
            for teller in TELLERS:
                self.assertRaises(TooMuch, teller, one)

    def test_many_slots_in_one_bag(self):
        steps = [(number, draw(number)) for number in range(40)]
        sees = [(-1, op("=", slot(one), slot(other))) for one in range(40) for other in range(one)]
        one = Opened(steps + sees + [(40, num(1))], [THREE] * 40, 41)
        for teller in TELLERS:
            self.assertRaises(TooMuch, teller, one)


class TestSlotTables(unittest.TestCase):
    def test_rising(self):
        # The bags' order is another one.
        rows = ["let x = flip(1/3)", "let a = x", "let b = x + 1", "let c = 4", "ask x"]
        x = [(0, (2, 3)), (1, (1, 3))]
        self.assertEqual(slot_tables(opened_text(*rows)), [
            (0, x), (1, x), (2, [(1, (2, 3)), (2, (1, 3))]), (3, [(4, (1, 1))]), (4, x)])

    def test_of_the_runs_in_which_all_that_is_seen_is_so(self):
        rows = ["let x = pick(5:1, 3:1, 4:2)", "let y = if(x < 5, {a: x}, x)", "see x + flip(1/2) < 5", "ask y.a"]
        self.assertEqual(slot_tables(opened_text(*rows)), [
            (0, [(3, (1, 2)), (4, (1, 2))]), (1, [((("a", 3),), (1, 2)), ((("a", 4),), (1, 2))]),
            (2, [(3, (1, 2)), (4, (1, 2))])])

    def test_values_in_order(self):
        one = opened_text("let x = pick(10:1, 9:1)", "ask if(flip(1/2), {a: 1}, x)")
        self.assertEqual(slot_tables(one)[1], (1, [(9, (1, 4)), (10, (1, 4)), (A1, (1, 2))]))

    def test_slots_of_steps_alone(self):
        one = opened_text("def f(a, b) = a * b", "let x = f(flip(1/2), 3)", "ask f(x, 2)")
        self.assertEqual(slot_tables(one), [(2, [(0, (1, 2)), (3, (1, 2))]), (5, [(0, (1, 2)), (6, (1, 2))])])

    def test_made_programs(self):
        for one in made_opened(250, 3, 100):
            found = answer(slot_tables, one)
            if isinstance(found, list):
                self.assertEqual(found, slot_tables_by_rows(one))
                self.assertEqual(bags_table(one), dict(found)[one.steps[-1][0]])
            else:
                self.assertEqual(found, answer(filled, one))
                self.assertEqual(found, answer(bags_table, one))


class TestBagsTable(unittest.TestCase):
    def test_numbers_and_records(self):
        self.assertEqual(bags_table(opened_text("ask 7")), [(7, (1, 1))])
        self.assertEqual(bags_table(opened_text("ask if(flip(1/3), {b: flip(1/2), a: 2}, pick(5:1, 4:1))")), [
            (4, (1, 3)), (5, (1, 3)), ((("a", 2), ("b", 0)), (1, 6)), ((("a", 2), ("b", 1)), (1, 6))])

    def test_against_the_plain_table(self):
        seen = 0
        for depth in (1, 2, 3, 4):
            for one in made_opened(150, depth, 1000):
                found = answer(bags_table, one)
                if found != TooMuch and bound(one) <= 1024:
                    self.assertEqual(found, answer(plain_table, one))
                    seen += 1
        self.assertGreater(seen, 500)

    def test_long_chains(self):
        one = opened_text("let x = 0", "again 30 x = x + flip(1/2)", "ask x")
        self.assertEqual(bound(one), 2 ** 30)
        expected = {number: Fraction(comb(30, number), 2 ** 30) for number in range(31)}
        self.assertEqual(bags_table(one), as_table(expected))
        rows = ["let x = 1", "again 30 x = x * flip(2/3)", "again 30 x = x * flip(2/3)"]
        all_are = Fraction(2, 3) ** 60
        self.assertEqual(bags_table(opened_text(*rows, "ask x")), as_table({0: 1 - all_are, 1: all_are}))
        self.assertEqual(bags_table(opened_text(*rows, "see x", "ask x + 6")), [(7, (1, 1))])
        self.assertRaises(Never, bags_table, opened_text(*rows, "see x = 2", "ask x"))

    def test_what_is_seen_along_a_chain(self):
        rows = ["let x = 0", "again 9 x = x + flip(1/2)", "see x < 2", "again 6 x = x + flip(1/2)", "see 3 < x",
                "ask x"]
        one = opened_text(*rows)
        self.assertEqual(bags_table(one), graph_table(one))
        self.assertRaises(TooMuch, plain_table, one)

    def test_great_weights(self):
        pick = "pick(0:999983, 1:999979, 2:1000000, 3:999961, 4:999953, 5:999931)"
        for many in ("5", "27"):
            rounds = "again " + many + " x = rest(x + " + pick + ", 7)"
            one = opened_text("let x = 0", rounds, "see x < 5", rounds, "see x + flip(1/1000000)", "ask x")
            for bag, shares in filled(one):
                self.assertEqual(sum(Fraction(*share) for values, share in shares), 1)
            if many == "5":
                self.assertEqual(bags_table(one), graph_table(one))

    def test_refusals_are_flip_errors(self):
        self.assertRaises(FlipError, bags_table, opened_text("see 0", "ask 1"))
        self.assertEqual(table_by_rows(opened_text("see 0", "ask 1")), [])


if __name__ == "__main__":
    unittest.main()
