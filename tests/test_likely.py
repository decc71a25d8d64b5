"""The prices of listed parts and the likeliest row of choices: promise 23, and what promises 2 and 3 say of them."""

import unittest
from copy import deepcopy
from fractions import Fraction
from math import prod

from flipwright.errors import Never, TooMuch
from flipwright.graphs import Graphs
from flipwright.growing import grown
from flipwright.likely import likeliest, prices
from flipwright.opening import Opened, bound
from flipwright.running import Listed, run
from flipwright.weighing import graph_of
from making import (A1, AB, HALF, THIRD, THREE, answer, draw, empty, evenly, led, made_lists, made_opened, num, op,
                    opened_text, row_share, rows_of_choices, shape, slot)

# The greatest shares are 1/2 at two indexes, 1/2 at the last, 2/3 at the first, 3/5 in the middle.
FOUR_DRAWS = [HALF, THREE, THIRD, [(4, 1), (5, 3), (6, 1)]]


def pair(share):
    return (share.numerator, share.denominator)


def greatest_share(each):
    return Fraction(max(weight for number, weight in each), sum(weight for number, weight in each))


def price_by_rows(parts, place, draws):
    """The greatest share of all choices of the draws from the part's own site on, by going through them all."""
    part = parts[place]
    site = part[1] if part[0] == "ask" else len(draws)
    shares = [row_share(draws[site:], row) for row in rows_of_choices(draws[site:])
              if led(parts, place, [0] * site + row) is not None]
    return pair(max(shares, default=Fraction(0)))


class TestPrices(unittest.TestCase):
    def assert_prices(self, parts, draws, wanted):
        self.assertEqual(prices(parts, draws), wanted)
        self.assertEqual([price_by_rows(parts, place, draws) for place in range(len(parts))], wanted)

    def test_leaves(self):
        for draws in ([], [HALF], FOUR_DRAWS):
            for outcome in (0, 1, 7, 10 ** 12 - 1, A1, AB):
                self.assert_prices([("leaf", outcome)], draws, [(1, 1)])
            self.assert_prices([("leaf", None)], draws, [(0, 1)])

    def test_no_parts(self):
        self.assertEqual(prices([], []), [])
        self.assertEqual(prices([], [HALF]), [])

    def test_what_counts_nothing_is_no_none(self):
        self.assert_prices([("leaf", 0), ("leaf", None), ("ask", 0, [1, 0])], [THIRD], [(1, 1), (0, 1), (1, 3)])
        self.assert_prices([("leaf", A1), ("leaf", None), ("ask", 0, [1, 0])], [THIRD], [(1, 1), (0, 1), (1, 3)])

    def test_a_question_of_the_last_site(self):
        leaves = [("leaf", None), ("leaf", 4)]
        self.assert_prices(leaves + [("ask", 0, [1, 0])], [THIRD], [(0, 1), (1, 1), (2, 3)])
        self.assert_prices(leaves + [("ask", 0, [0, 1])], [THIRD], [(0, 1), (1, 1), (1, 3)])
        self.assert_prices(leaves + [("ask", 1, [1, 1, 0])], [HALF, THREE], [(0, 1), (1, 1), (1, 3)])
        self.assert_prices(leaves + [("ask", 1, [0, 0, 1])], [HALF, THREE], [(0, 1), (1, 1), (1, 2)])

    def test_questions_of_one_to_six_children(self):
        for many in range(1, 7):
            each = [(number, number + 1) for number in range(many)]
            whole = sum(range(many + 1))
            for last in range(many):
                children = [1 if index <= last else 0 for index in range(many)]
                parts = [("leaf", None), ("leaf", 5), ("ask", 1, children)]
                share = pair(Fraction(last + 1, whole))
                self.assert_prices(parts, [HALF, each], [(0, 1), (1, 1), share])
                # A draw behind it, of which nothing is asked, counts by its greatest share.
                share = pair(Fraction(last + 1, whole) * Fraction(2, 3))
                self.assert_prices(parts, [HALF, each, THIRD], [(0, 1), (1, 1), share])

    def test_draws_between_count_by_their_greatest_shares(self):
        parts = [("leaf", None), ("leaf", 9), ("ask", 3, [1, 0, 0]), ("ask", 0, [2, 0])]
        self.assert_prices(parts, FOUR_DRAWS, [(0, 1), (1, 1), (1, 5), pair(Fraction(1, 2 * 2 * 5) * Fraction(2, 3))])
        parts[3] = ("ask", 1, [0, 0, 2])
        self.assert_prices(parts, FOUR_DRAWS, [(0, 1), (1, 1), (1, 5), pair(Fraction(1, 2 * 5) * Fraction(2, 3))])
        parts[3] = ("ask", 2, [0, 2])
        self.assert_prices(parts, FOUR_DRAWS, [(0, 1), (1, 1), (1, 5), (1, 15)])

    def test_draws_behind_the_last_question_count(self):
        parts = [("leaf", None), ("leaf", 9), ("ask", 0, [0, 1])]
        share = Fraction(1, 2) * Fraction(1, 2) * Fraction(2, 3) * Fraction(3, 5)
        self.assert_prices(parts, FOUR_DRAWS, [(0, 1), (1, 1), pair(share)])

    def test_draws_ahead_of_the_own_site_do_not_count(self):
        parts = [("leaf", None), ("leaf", 9), ("ask", 3, [0, 1, 0])]
        self.assert_prices(parts, FOUR_DRAWS, [(0, 1), (1, 1), (3, 5)])

    def test_children_of_different_sites(self):
        # At once 1/4 * 3/4 * 1/2; by the question of the last draw 3/4 * 1/4 * 1/2; by that of the middle one none.
        fourth = [(0, 1), (1, 3)]
        parts = [("leaf", None), ("leaf", 2), ("ask", 2, [0, 1]), ("ask", 1, [0, 0]), ("ask", 0, [1, 2]),
                 ("ask", 0, [1, 3]), ("ask", 0, [3, 2])]
        self.assert_prices(parts, [fourth, fourth, HALF], [
            (0, 1), (1, 1), (1, 2), (0, 1), (9, 32), (3, 32), (9, 32)])
        self.assert_prices(parts, [fourth, fourth, [(0, 8), (1, 1)]], [
            (0, 1), (1, 1), (1, 9), (0, 1), (1, 6), (1, 6), (1, 16)])

    def test_the_greatest_weight_is_not_always_the_best_child(self):
        parts = [("leaf", None), ("leaf", 3), ("ask", 1, [0, 0, 0, 0, 0, 1]), ("ask", 0, [2, 1])]
        self.assert_prices(parts, [THIRD, evenly(6)], [(0, 1), (1, 1), (1, 6), (1, 9)])
        self.assert_prices(parts, [[(0, 9), (1, 1)], [(number, 1) for number in range(5)] + [(5, 5)]],
                           [(0, 1), (1, 1), (1, 2), (9, 20)])

    def test_alike_needless_and_loose_parts(self):
        parts = [("leaf", 3), ("leaf", 3), ("leaf", None), ("ask", 1, [0, 1]), ("ask", 1, [2, 2]), ("ask", 0, [3, 3]),
                 ("ask", 0, [0, 4]), ("ask", 0, [0, 4]), ("leaf", None), ("leaf", 8)]
        self.assert_prices(parts, [THIRD, [(5, 3), (6, 1)]], [
            (1, 1), (1, 1), (0, 1), (3, 4), (0, 1), (1, 2), (1, 2), (1, 2), (0, 1), (1, 1)])

    def test_a_draw_of_one_outcome(self):
        parts = [("leaf", 3), ("leaf", None), ("ask", 1, [0]), ("ask", 1, [1]), ("ask", 0, [2, 3])]
        self.assert_prices(parts, [THIRD, [(9, 7)]], [(1, 1), (0, 1), (1, 1), (0, 1), (2, 3)])

    def test_none_at_every_leaf(self):
        parts = [("leaf", None), ("ask", 1, [0, 0]), ("ask", 0, [1, 0])]
        self.assert_prices(parts, [HALF, HALF], [(0, 1)] * 3)

    def test_made_lists(self):
        for seed in range(80):
            parts, draws = made_lists(seed)
            wanted = [price_by_rows(parts, place, draws) for place in range(len(parts))]
            self.assertEqual(prices(parts, draws), wanted)

    def test_graphs_of_made_programs(self):
        for one in made_opened(60, 3, 60):
            parts = graph_of(one)
            wanted = [price_by_rows(parts, place, one.draws) for place in range(len(parts))]
            self.assertEqual(prices(parts, one.draws), wanted)

    def test_great_weights_and_many_draws(self):
        draws = [[(0, 10 ** 6 - site), (1, 999 + site)] for site in range(60)]
        parts = [("leaf", None), ("leaf", 1)]
        for site in range(59, -1, -1):
            parts.append(("ask", site, [len(parts) - 1, 0] if site % 2 == 0 else [0, len(parts) - 1]))
        share, wanted = Fraction(1), [(0, 1), (1, 1)]
        for site in range(59, -1, -1):
            share *= Fraction(draws[site][site % 2][1], sum(weight for number, weight in draws[site]))
            wanted.append(pair(share))
        self.assertEqual(prices(parts, draws), wanted)

    def test_what_is_handed_in_stays(self):
        parts, draws = made_lists(7)
        before = deepcopy((parts, draws))
        found = prices(parts=parts, draws=draws)
        self.assertEqual((parts, draws), before)
        wanted = list(found)
        empty(parts, draws)
        self.assertEqual(found, wanted)


class TestLikeliest(unittest.TestCase):
    def assert_likeliest(self, one, share):
        """The share is that, the row has it, and its run comes to another outcome than None."""
        told = likeliest(one)
        self.assertIsInstance(told, tuple)
        choices, its_share = told
        self.assertEqual(its_share, pair(Fraction(share)))
        self.assertIsInstance(choices, list)
        self.assertEqual(len(choices), len(one.draws))
        for index, each in zip(choices, one.draws):
            self.assertIn(index, range(len(each)))
        self.assertEqual(pair(row_share(one.draws, choices)), its_share)
        self.assertIsNotNone(run(one, Listed(choices)))
        parts = graph_of(one)
        ahead = one.draws[:parts[-1][1]] if parts[-1][0] == "ask" else one.draws
        by_price = prod([greatest_share(each) for each in ahead], start=Fraction(*prices(parts, one.draws)[-1]))
        self.assertEqual(pair(by_price), its_share)
        return choices

    def test_no_draw(self):
        self.assertEqual(self.assert_likeliest(opened_text("ask 7"), 1), [])
        self.assertEqual(self.assert_likeliest(opened_text("ask 0"), 1), [])
        self.assertEqual(self.assert_likeliest(opened_text("see 2", "ask {a: 0}"), 1), [])

    def test_one_draw(self):
        self.assertEqual(self.assert_likeliest(opened_text("ask flip(1/3)"), Fraction(2, 3)), [0])
        self.assertEqual(self.assert_likeliest(opened_text("ask flip(2/3)"), Fraction(2, 3)), [1])
        self.assertEqual(self.assert_likeliest(opened_text("ask pick(7:1, 8:3, 9:2)"), Fraction(1, 2)), [1])
        self.assertEqual(self.assert_likeliest(opened_text("ask pick(7:5)"), 1), [0])

    def test_what_is_seen(self):
        rows = ["let x = flip(1/3)", "see x", "ask pick(7:1, 8:3)"]
        self.assertEqual(self.assert_likeliest(opened_text(*rows), Fraction(1, 4)), [1, 1])
        rows = ["let sick = flip(1/100)", "let sign = if(sick, flip(9/10), flip(1/10))", "see sign", "ask sick"]
        choices = self.assert_likeliest(opened_text(*rows), Fraction(99, 100) * Fraction(9, 10) * Fraction(1, 10))
        self.assertEqual(choices, [0, 1, 1])
        rows = ["let x = pick(1:4, 2:3, 3:2, 4:1)", "let y = pick(1:4, 2:3, 3:2, 4:1)", "see x + y = 6", "ask x"]
        self.assert_likeliest(opened_text(*rows), Fraction(4, 100))

    def test_a_single_row_of_choices(self):
        rows = ["let x = pick(1:9, 2:1)", "let y = pick(1:9, 2:2, 3:1)", "see x + y = 5", "ask flip(1/3)"]
        choices = self.assert_likeliest(opened_text(*rows), Fraction(1, 10) * Fraction(1, 12) * Fraction(2, 3))
        self.assertEqual(choices, [1, 2, 0])

    def test_draws_to_which_no_run_comes(self):
        one = opened_text("ask if(0, pick(1:1, 2:5), 4) + if(flip(1/3), pick(1:1, 2:1, 3:7), 4)")
        self.assertEqual(self.assert_likeliest(one, Fraction(5, 6) * Fraction(2, 3) * Fraction(7, 9)), [1, 0, 2])

    def test_draws_that_stand_in_no_step(self):
        one = Opened([(0, draw(1)), (-1, slot(0)), (3, num(5))], [[(4, 1), (5, 9)], THIRD, THREE], 4)
        self.assertEqual(self.assert_likeliest(one, Fraction(9, 10) * Fraction(1, 3) * Fraction(1, 2)), [1, 1, 2])
        one = Opened([(0, num(1))], [THREE, THIRD], 1)
        self.assertEqual(self.assert_likeliest(one, Fraction(1, 3)), [2, 0])

    def test_the_likeliest_row_not_the_likeliest_answer(self):
        # The answer 1 comes for 6/10, in three rows of which none is as likely as the one of 0.
        one = opened_text("let x = pick(0:4, 1:2, 2:2, 3:2)", "ask 0 < x")
        self.assertEqual(self.assert_likeliest(one, Fraction(4, 10)), [0])

    def test_no_row_of_all_is_likelier(self):
        refused, seen = 0, 0
        for depth in (1, 2, 3, 4):
            for one in made_opened(120, depth, 150):
                rows = rows_of_choices(one.draws)
                shares = [row_share(one.draws, row) for row in rows if run(one, Listed(row)) is not None]
                if shares:
                    self.assert_likeliest(one, max(shares))
                    seen += 1
                else:
                    self.assertRaises(Never, likeliest, one)
                    refused += 1
        self.assertGreater(seen, 300)
        self.assertGreater(refused, 10)

    def test_long_chains(self):
        one = opened_text("let x = 0", "again 20 x = x + flip(1/3)", "see x = 7", "ask x")
        self.assertEqual(bound(one), 2 ** 20)
        choices = self.assert_likeliest(one, Fraction(2 ** 13, 3 ** 20))
        self.assertEqual(sum(choices), 7)
        rows = ["let x = 1", "again 30 x = x * flip(2/3)", "again 30 x = x * flip(1/3)"]
        choices = self.assert_likeliest(opened_text(*rows, "see x", "ask 5"), Fraction(2 ** 30, 3 ** 60))
        self.assertEqual(choices, [1] * 60)
        choices = self.assert_likeliest(opened_text(*rows, "ask x"), Fraction(2, 3) ** 60)
        self.assertEqual(choices, [1] * 30 + [0] * 30)

    def test_a_long_chain_of_states(self):
        one = opened_text("let x = 0", "again 10 x = rest(x + pick(1:5, 2:2, 4:1), 4)", "see x = 3", "see flip(1/9)",
                          "again 5 x = rest(x * x + pick(1:5, 2:2, 4:1), 4)", "see x = 0", "ask x")
        self.assertGreater(bound(one), 3 ** 15)
        best = {0: Fraction(1)}
        for turn in range(15):
            reached = {}
            for state, share in best.items():
                for number, weight in ((1, 5), (2, 2), (4, 1)):
                    after = ((state if turn < 10 else state * state) + number) % 4
                    reached[after] = max(reached.get(after, 0), share * Fraction(weight, 8))
            best = reached if turn != 9 else {3: reached[3]}
        self.assert_likeliest(one, best[0] * Fraction(1, 9))

    def test_never(self):
        for rows in (["see 0", "ask 1"], ["see flip(1/2) - 0 = 2", "ask flip(1/2)"], ["see {a: 1}", "ask 5"],
                     ["let x = flip(1/2)", "see x", "see 1 - x", "ask x"]):
            self.assertRaises(Never, likeliest, opened_text(*rows))
        rows = ["let x = 1", "again 30 x = x * flip(2/3)", "again 30 x = x * flip(2/3)", "see x = 2", "ask x"]
        self.assertRaises(Never, likeliest, opened_text(*rows))

    def test_too_much(self):
        one = opened_text("let x = 0", "again 30 x = x + x + flip(1/2)", "ask x")
        self.assertRaises(TooMuch, likeliest, one)
        one = opened_text("let x = 0", "again 30 x = x + x + flip(1/2)", "see 0", "ask x")
        self.assertRaises(TooMuch, likeliest, one)

    def test_too_much_just_where_the_keeper_is_full(self):
        # Kept are None, 0, 1, and of each num one more.
        steps = [(number, num(number + 2)) for number in range(2000 - 3)]
        self.assertEqual(likeliest(Opened(steps, [], 1997)), ([], (1, 1)))
        self.assertRaises(TooMuch, likeliest, Opened(steps + [(1997, num(5000))], [], 1998))
        for many in range(5, 14):
            one = opened_text("let x = 0", "again " + str(many) + " x = x + x + flip(1/3)", "ask x")
            if answer(lambda each: grown(each, Graphs()), one) == TooMuch:
                self.assertRaises(TooMuch, likeliest, one)
            else:
                self.assert_likeliest(one, Fraction(2, 3) ** many)

    def test_what_is_told_is_the_askers_own(self):
        one = opened_text("let x = flip(1/3)", "see x", "ask pick(3:1, 4:2)")
        before = shape(one)
        likeliest(one=one)[0].append("mine")
        self.assertEqual(likeliest(one), ([1, 1], (2, 9)))
        self.assertEqual(shape(one), before)

    def test_sums_of_many_draws(self):
        one = Opened([(0, op("+", op("+", draw(0), draw(1)), draw(2))), (-1, op("=", slot(0), num(24))), (1, slot(0))],
                     [THREE, THREE, THREE], 2)
        self.assert_likeliest(one, Fraction(8, 216))
        one.steps[1] = (-1, op("=", slot(0), num(25)))
        self.assert_likeliest(one, Fraction(12, 216))


if __name__ == "__main__":
    unittest.main()
