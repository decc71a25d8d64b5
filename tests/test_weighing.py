"""Graphs weighed from below: promises 21 and 22, and what promises 2, 3 and 19 say of them."""

import unittest
from copy import deepcopy
from fractions import Fraction

from flipwright.errors import Never, TooMuch
from flipwright.graphs import Graphs
from flipwright.growing import grown
from flipwright.opening import Opened, bound
from flipwright.plain import plain_table
from flipwright.running import Listed, run
from flipwright.weighing import graph_of, graph_table, weighed
from making import (A1, HALF, THIRD, THREE, as_table, bind, draw, empty, led, made_lists, made_opened, num, op,
                    opened_text, row_share, rows_of_choices, shape, slot, table_by_rows)


def weighed_by_rows(parts, draws):
    tables = []
    for place in range(len(parts)):
        shares = {}
        for row in rows_of_choices(draws):
            outcome = led(parts, place, row)
            shares[outcome] = shares.get(outcome, 0) + row_share(draws, row)
        tables.append(as_table(shares))
    return tables


class TestWeighed(unittest.TestCase):
    def test_leaves(self):
        for outcome in (None, 0, 7, A1):
            self.assertEqual(weighed([("leaf", outcome)], []), [[(outcome, (1, 1))]])
            self.assertEqual(weighed([("leaf", outcome)], [HALF, THREE]), [[(outcome, (1, 1))]])

    def test_no_parts(self):
        self.assertEqual(weighed([], [HALF]), [])

    def test_a_question(self):
        parts = [("leaf", 4), ("leaf", None), ("ask", 0, [0, 1])]
        self.assertEqual(weighed(parts, [THIRD]), [[(4, (1, 1))], [(None, (1, 1))], [(None, (1, 3)), (4, (2, 3))]])
        parts = [("leaf", 5), ("leaf", A1), ("ask", 1, [1, 0, 1])]
        self.assertEqual(weighed(parts, [HALF, THREE])[2], [(5, (1, 3)), (A1, (2, 3))])

    def test_shares_are_the_weights_not_the_outcomes(self):
        parts = [("leaf", 70), ("leaf", 80), ("leaf", 90), ("ask", 0, [2, 1, 0])]
        self.assertEqual(weighed(parts, [THREE])[3], [(70, (1, 2)), (80, (1, 3)), (90, (1, 6))])

    def test_shared_parts(self):
        parts = [("leaf", 0), ("leaf", 1), ("ask", 2, [0, 1]), ("ask", 1, [2, 1]), ("ask", 0, [3, 2])]
        self.assertEqual(weighed(parts, [HALF, THIRD, THIRD])[2:], [
            [(0, (2, 3)), (1, (1, 3))], [(0, (4, 9)), (1, (5, 9))], [(0, (5, 9)), (1, (4, 9))]])

    def test_alike_and_needless_parts(self):
        parts = [("leaf", 3), ("leaf", 3), ("ask", 1, [0, 1]), ("ask", 0, [2, 2]), ("ask", 0, [0, 2])]
        self.assertEqual(weighed(parts + parts[4:], [THIRD, HALF]), [[(3, (1, 1))]] * 6)

    def test_parts_beneath_no_other(self):
        parts = [("leaf", 3), ("leaf", 4), ("ask", 1, [0, 1]), ("leaf", 5), ("ask", 0, [1, 3]), ("leaf", 6)]
        self.assertEqual(weighed(parts, [THIRD, HALF]), [
            [(3, (1, 1))], [(4, (1, 1))], [(3, (1, 2)), (4, (1, 2))], [(5, (1, 1))], [(4, (2, 3)), (5, (1, 3))],
            [(6, (1, 1))]])

    def test_one_child(self):
        self.assertEqual(weighed([("leaf", 3), ("ask", 0, [0])], [[(9, 4)]]), [[(3, (1, 1))], [(3, (1, 1))]])

    def test_made_lists(self):
        for seed in range(60):
            parts, draws = made_lists(seed)
            self.assertEqual(weighed(parts, draws), weighed_by_rows(parts, draws))

    def test_what_is_handed_in_stays(self):
        parts, draws = made_lists(5)
        before = deepcopy((parts, draws))
        tables = weighed(parts=parts, draws=draws)
        self.assertEqual((parts, draws), before)
        wanted = deepcopy(tables)
        empty(parts, draws)
        self.assertEqual(tables, wanted)

    def test_each_table_is_a_list_of_its_own(self):
        parts = [("leaf", 3), ("leaf", 3), ("ask", 1, [0, 0]), ("ask", 0, [2, 2]), ("ask", 0, [2, 2])]
        tables = weighed(parts, [HALF, HALF])
        for place in range(5):
            tables[place].append("mine")
            self.assertEqual([each.count("mine") for each in tables], [1] * (place + 1) + [0] * (4 - place))


class TestGraphOf(unittest.TestCase):
    def test_lists(self):
        self.assertEqual(graph_of(opened_text("ask 7")), [("leaf", 7)])
        self.assertEqual(graph_of(opened_text("ask 1 - flip(1/3)")), [("leaf", 1), ("leaf", 0), ("ask", 0, [0, 1])])
        self.assertEqual(graph_of(opened_text("let x = flip(1/2)", "see flip(1/2) + x", "ask x")), [
            ("leaf", None), ("leaf", 0), ("ask", 1, [0, 1]), ("leaf", 1), ("ask", 0, [2, 3])])
        self.assertEqual(graph_of(opened_text("see 0", "ask flip(1/2)")), [("leaf", None)])

    def test_a_sum(self):
        self.assertEqual(graph_of(opened_text("let x = 0", "again 3 x = x + flip(1/2)", "ask x")), [
            ("leaf", 0), ("leaf", 1), ("ask", 2, [0, 1]), ("leaf", 2), ("ask", 2, [1, 3]), ("ask", 1, [2, 4]),
            ("leaf", 3), ("ask", 2, [3, 6]), ("ask", 1, [4, 7]), ("ask", 0, [5, 8])])

    def test_equal_just_where_they_lead_alike(self):
        rows = (["let x = flip(1/2)", "let y = flip(1/2)", "ask x * y"], ["ask if(flip(1/3), flip(1/5), 0)"],
                ["let x = flip(1/2)", "ask if(flip(1/2), x, 0)"], ["ask if(flip(1/3), 0, flip(1/5))"])
        self.assertEqual(graph_of(opened_text(*rows[0])), graph_of(opened_text(*rows[1])))
        self.assertEqual(graph_of(opened_text(*rows[0])), graph_of(opened_text(*rows[2])))
        self.assertNotEqual(graph_of(opened_text(*rows[0])), graph_of(opened_text(*rows[3])))
        self.assertNotEqual(graph_of(opened_text("ask flip(1/2)")), graph_of(opened_text("ask 1 - flip(1/2)")))

    def test_it_is_that_of_a_new_keeper(self):
        for one in made_opened(40, 3, 60):
            graphs = Graphs()
            self.assertEqual(graph_of(one), graphs.listed(grown(one, graphs)))

    def test_nothing_alike_and_nothing_needless(self):
        for one in made_opened(80, 3, 100):
            parts = graph_of(one)
            self.assertEqual(len({repr(part) for part in parts}), len(parts))
            for place, part in enumerate(parts):
                if part[0] == "ask":
                    self.assertGreater(len(set(part[2])), 1)
                    self.assertEqual(len(part[2]), len(one.draws[part[1]]))
                    for child in part[2]:
                        self.assertLess(child, place)
                        self.assertTrue(parts[child][0] == "leaf" or parts[child][1] > part[1])

    def test_each_row_of_choices_leads_to_what_the_run_tells(self):
        for one in made_opened(80, 3, 100):
            parts = graph_of(one)
            for row in rows_of_choices(one.draws):
                self.assertEqual(led(parts, len(parts) - 1, row), run(one, Listed(row)))

    def test_too_much(self):
        one = opened_text("let x = 0", "again 30 x = x + x + flip(1/2)", "ask x")
        self.assertRaises(TooMuch, graph_of, one)
        self.assertRaises(TooMuch, graph_table, one)

    def test_too_much_goes_ahead_of_never(self):
        one = opened_text("let x = 0", "again 30 x = x + x + flip(1/2)", "see 0", "ask x")
        self.assertRaises(TooMuch, graph_table, one)

    def test_just_two_thousand_parts(self):
        # Kept are None, 0, 1, and of each num one more.
        steps = [(number, num(number + 2)) for number in range(2000 - 3)]
        self.assertEqual(graph_of(Opened(steps, [], 1997)), [("leaf", 1998)])
        self.assertRaises(TooMuch, graph_of, Opened(steps + [(1997, num(5000))], [], 1998))

    def test_what_is_told_is_the_askers_own(self):
        one = opened_text("let x = flip(1/2)", "see x", "ask pick(3:1, 4:2)")
        before = shape(one)
        parts = graph_of(one=one)
        wanted = deepcopy(parts)
        for part in parts:
            if part[0] == "ask":
                part[2].append("mine")
        parts.clear()
        self.assertEqual(graph_of(one), wanted)
        graph_table(one=one).clear()
        self.assertEqual(graph_table(one), [(3, (1, 3)), (4, (2, 3))])
        self.assertEqual(shape(one), before)


class TestGraphTable(unittest.TestCase):
    def assert_table(self, one, wanted):
        if wanted:
            self.assertEqual(graph_table(one), wanted)
            self.assertEqual(sum(Fraction(*share) for outcome, share in wanted), 1)
        else:
            self.assertRaises(Never, graph_table, one)

    def assert_as_plain(self, one):
        try:
            wanted = plain_table(one)
        except Never:
            wanted = []
        self.assert_table(one, wanted)

    def test_numbers_and_records(self):
        self.assert_table(opened_text("ask 7"), [(7, (1, 1))])
        self.assert_table(opened_text("ask pick(9:1, 3:2) * flip(1/2)"), [(0, (1, 2)), (3, (1, 3)), (9, (1, 6))])
        self.assert_table(opened_text("ask if(flip(1/3), {b: flip(1/2), a: 2}, pick(5:1, 4:1))"), [
            (4, (1, 3)), (5, (1, 3)), ((("a", 2), ("b", 0)), (1, 6)), ((("a", 2), ("b", 1)), (1, 6))])

    def test_what_is_seen(self):
        rows = ["let sick = flip(1/100)", "let sign = if(sick, flip(9/10), flip(1/10))", "see sign", "ask sick"]
        self.assert_table(opened_text(*rows), [(0, (11, 12)), (1, (1, 12))])
        self.assert_table(opened_text("see 1", "ask 0"), [(0, (1, 1))])

    def test_never(self):
        for rows in (["see 0", "ask 1"], ["see flip(1/2) - 0 = 2", "ask flip(1/2)"], ["see {a: 1}", "ask 5"],
                     ["let x = flip(1/2)", "see x", "see 1 - x", "ask x"]):
            self.assertRaises(Never, graph_table, opened_text(*rows))
            self.assert_as_plain(opened_text(*rows))

    def test_as_the_plain_table(self):
        for depth in (1, 2, 3, 4):
            for one in made_opened(150, depth, 150):
                self.assert_table(one, table_by_rows(one))
                if bound(one) <= 1024:
                    self.assert_as_plain(one)

    def test_bounds_above_1024(self):
        one = opened_text("let x = 0", "again 20 x = x + flip(1/2)", "ask x")
        self.assertRaises(TooMuch, plain_table, one)
        wanted, row = [], 1
        for number in range(21):
            wanted.append((number, Fraction(row, 2 ** 20)))
            row = row * (20 - number) // (number + 1)
        self.assert_table(one, as_table(dict(wanted)))

    def test_sixty_draws(self):
        rows = ["let x = 1", "again 30 x = x * flip(2/3)", "again 30 x = x * flip(2/3)"]
        one = opened_text(*rows, "ask x")
        self.assertEqual(bound(one), 2 ** 60)
        all_are = Fraction(2, 3) ** 60
        self.assert_table(one, as_table({0: 1 - all_are, 1: all_are}))
        self.assertRaises(Never, graph_table, opened_text(*rows, "see x = 2", "ask x"))
        self.assert_table(opened_text(*rows, "see x", "ask x + 6"), [(7, (1, 1))])

    def test_draws_that_stand_nowhere(self):
        self.assert_table(Opened([(0, draw(1))], [[(4, 1), (5, 9)], THIRD, THREE], 1), [(0, (2, 3)), (1, (1, 3))])

    def test_binds_that_no_text_opens_to(self):
        term = bind(9, draw(0), op("+", bind(9, draw(1), slot(9)), slot(9)))
        self.assert_as_plain(Opened([(4, term), (7, op("*", slot(4), slot(4)))], [THIRD, THREE], 10))


if __name__ == "__main__":
    unittest.main()
