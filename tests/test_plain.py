"""The ways of a program and the plain table: promise 15, and what promise 2 says of them."""

import unittest
from fractions import Fraction

from flipwright.errors import Never, TooMuch
from flipwright.opening import Opened, bound
from flipwright.plain import plain_table, term_ways, ways
from flipwright.running import Hand, Listed, run, told
from making import (HALF, THREE, bind, draw, evenly, made_opened, num, op, opened_text, row_share, rows_of_choices,
                    shape, slot, table_by_rows)


def all_drawn(*widths):
    """A program that draws once for each of these widths, a step each."""
    steps = [(number, draw(number)) for number in range(len(widths))]
    return Opened(steps + [(len(widths), num(1))], [evenly(each) for each in widths], len(widths) + 1)


def ways_by_rows(one):
    """The ways by runs with every row of choices: rows that lead to the same taken are one way, shares added up."""
    found = {}
    for row in rows_of_choices(one.draws):
        hand = Listed(row)
        outcome = run(one, hand)
        share = found.get(tuple(hand.taken), (0, None))[0] + row_share(one.draws, row)
        found[tuple(hand.taken)] = (share, outcome)
    ordered = sorted(found, key=lambda taken: [index for site, index in taken])
    return [(list(taken), (found[taken][0].numerator, found[taken][0].denominator), found[taken][1])
            for taken in ordered]


class TestWays(unittest.TestCase):
    def test_no_draw(self):
        self.assertEqual(ways(opened_text("ask 2 + 3")), [([], (1, 1), 5)])
        self.assertEqual(ways(opened_text("let x = {a: 1}", "ask x")), [([], (1, 1), (("a", 1),))])
        self.assertEqual(ways(opened_text("see 0", "ask 1")), [([], (1, 1), None)])

    def test_one_draw(self):
        self.assertEqual(ways(opened_text("ask flip(1/3)")), [([(0, 0)], (2, 3), 0), ([(0, 1)], (1, 3), 1)])
        self.assertEqual(ways(opened_text("ask pick(9:3, 4:2, 6:1)")),
                         [([(0, 0)], (1, 2), 9), ([(0, 1)], (1, 3), 4), ([(0, 2)], (1, 6), 6)])

    def test_a_pick_of_one(self):
        self.assertEqual(ways(opened_text("ask pick(5:7)")), [([(0, 0)], (1, 1), 5)])
        self.assertEqual(ways(opened_text("ask pick(5:7) + flip(1/4) + pick(3:1)")),
                         [([(0, 0), (1, 0), (2, 0)], (3, 4), 8), ([(0, 0), (1, 1), (2, 0)], (1, 4), 9)])

    def test_several_draws(self):
        self.assertEqual(ways(opened_text("let x = flip(1/3)", "ask x * 10 + pick(7:1, 8:2, 9:3)")), [
            ([(0, 0), (1, 0)], (1, 9), 7), ([(0, 0), (1, 1)], (2, 9), 8), ([(0, 0), (1, 2)], (1, 3), 9),
            ([(0, 1), (1, 0)], (1, 18), 17), ([(0, 1), (1, 1)], (1, 9), 18), ([(0, 1), (1, 2)], (1, 6), 19)])

    def test_alike_outcomes_are_ways_apart(self):
        self.assertEqual(ways(opened_text("ask flip(1/2) * 0")), [([(0, 0)], (1, 2), 0), ([(0, 1)], (1, 2), 0)])

    def test_an_if_that_draws_one_way(self):
        self.assertEqual(ways(opened_text("ask if(flip(1/2), pick(7:1, 8:2), 5)")), [
            ([(0, 0)], (1, 2), 5), ([(0, 1), (1, 0)], (1, 6), 7), ([(0, 1), (1, 1)], (1, 3), 8)])
        self.assertEqual(ways(opened_text("ask if(flip(1/2), 5, pick(7:1, 8:2))")), [
            ([(0, 0), (1, 0)], (1, 6), 7), ([(0, 0), (1, 1)], (1, 3), 8), ([(0, 1)], (1, 2), 5)])

    def test_an_if_that_draws_both_ways(self):
        self.assertEqual(ways(opened_text("ask if(flip(1/4), flip(1/3), pick(7:1, 8:1)) + flip(1/2)")), [
            ([(0, 0), (2, 0), (3, 0)], (3, 16), 7), ([(0, 0), (2, 0), (3, 1)], (3, 16), 8),
            ([(0, 0), (2, 1), (3, 0)], (3, 16), 8), ([(0, 0), (2, 1), (3, 1)], (3, 16), 9),
            ([(0, 1), (1, 0), (3, 0)], (1, 12), 0), ([(0, 1), (1, 0), (3, 1)], (1, 12), 1),
            ([(0, 1), (1, 1), (3, 0)], (1, 24), 1), ([(0, 1), (1, 1), (3, 1)], (1, 24), 2)])

    def test_sees_that_end_the_run(self):
        rows = ["let x = flip(1/3)", "see x", "let y = flip(1/2)", "see y", "ask flip(1/5)"]
        self.assertEqual(ways(opened_text(*rows)), [
            ([(0, 0)], (2, 3), None), ([(0, 1), (1, 0)], (1, 6), None),
            ([(0, 1), (1, 1), (2, 0)], (2, 15), 0), ([(0, 1), (1, 1), (2, 1)], (1, 30), 1)])

    def test_steps_that_no_text_opens_to(self):
        one = Opened([(2, draw(1)), (-1, op("<", slot(2), num(9))), (8, bind(3, draw(2), op("+", slot(3), slot(2))))],
                     [HALF, THREE, HALF, HALF], 9)
        self.assertEqual(ways(one), [
            ([(1, 0), (2, 0)], (1, 12), 7), ([(1, 0), (2, 1)], (1, 12), 8),
            ([(1, 1), (2, 0)], (1, 6), 8), ([(1, 1), (2, 1)], (1, 6), 9), ([(1, 2)], (1, 2), None)])

    def test_great_weights(self):
        one = opened_text("ask flip(1/1000000) + flip(999999/1000000)")
        self.assertEqual([share for taken, share, outcome in ways(one)],
                         [(999999, 10 ** 12), (999999 ** 2, 10 ** 12), (1, 10 ** 12), (999999, 10 ** 12)])

    def test_a_bound_of_1024(self):
        for one in (all_drawn(*[2] * 10), all_drawn(4, 4, 4, 4, 4), all_drawn(1024)):
            self.assertEqual(bound(one), 1024)
            found = ways(one)
            self.assertEqual(len(found), 1024)
            self.assertEqual({share for taken, share, outcome in found}, {(1, 1024)})
            rows = [list(enumerate(row)) for row in rows_of_choices(one.draws)]
            self.assertEqual([taken for taken, share, outcome in found], rows)

    def test_a_bound_above_1024(self):
        for one, many in ((all_drawn(1025), 1025), (all_drawn(5, 5, 41), 1025), (all_drawn(6, 6, 6, 5), 1080),
                          (all_drawn(*[2] * 11), 2048), (all_drawn(*[6] * 60), 6 ** 60)):
            self.assertEqual(bound(one), many)
            self.assertRaises(TooMuch, ways, one)
            self.assertRaises(TooMuch, plain_table, one)

    def test_the_bound_counts_not_the_ways(self):
        four = "def f() = flip(1/2) + flip(1/2) + flip(1/2) + flip(1/2)"
        for rows in ([four, "ask if(0, f() + f() + f(), 5)"], [four, "see 0", "ask f() + f() + f()"]):
            self.assertEqual(bound(opened_text(*rows)), 4096)
            self.assertRaises(TooMuch, ways, opened_text(*rows))
            self.assertRaises(TooMuch, plain_table, opened_text(*rows))

    def test_more_draws_than_one_run_comes_to(self):
        rows = ["let x = pick(0:1, 1:1, 2:1, 3:1, 4:1, 5:1)", "let y = 0"]
        rows += ["let y = if(x = " + str(number) + ", flip(1/2) + flip(1/2), y)" for number in range(3)]
        one = opened_text(*rows, "ask y")
        self.assertEqual(bound(one), 384)
        self.assertEqual(len(ways(one)), 3 + 3 * 4)

    def test_many_terms(self):
        rows = ["let x = 0"] + ["let x = x + flip(1/2)"] * 10 + ["again 30 x = x + 1 + 2 + 3 - 6"] * 2 + ["ask x"]
        self.assertEqual([share[1] for outcome, share in plain_table(opened_text(*rows))][5], 256)

    def test_made_programs(self):
        seen = 0
        for one in made_opened(150, 3, 150):
            if bound(one) <= 1024:
                found = ways(one)
                self.assertEqual(found, ways_by_rows(one))
                self.assertEqual(sum(Fraction(*share) for taken, share, outcome in found), 1)
                seen += 1
        self.assertGreater(seen, 150)

    def test_what_is_told_is_the_askers_own(self):
        one = opened_text("let x = flip(1/2)", "see x", "ask x")
        before = shape(one)
        found = ways(one)
        wanted = repr(found)
        for taken, share, outcome in found:
            taken.append("mine")
        found.clear()
        self.assertEqual(repr(ways(one)), wanted)
        self.assertEqual(shape(one), before)

    def test_each_way_has_a_list_of_its_own(self):
        found = ways(opened_text("ask flip(1/2)"))
        found[0][0].append("mine")
        self.assertEqual(found[1][0], [(0, 1)])

    def test_argument_names(self):
        one = opened_text("ask 1")
        self.assertEqual(ways(one=one), [([], (1, 1), 1)])
        self.assertEqual(plain_table(one=one), [(1, (1, 1))])
        self.assertEqual(term_ways(term=num(1), held={}, draws=[]), [([], (1, 1), 1)])


class TestTermWays(unittest.TestCase):
    def test_no_draw(self):
        self.assertEqual(term_ways(num(5), {}, []), [([], (1, 1), 5)])
        self.assertEqual(term_ways(op("+", slot(3), slot(9)), {3: 4, 9: 5}, []), [([], (1, 1), 9)])
        self.assertEqual(term_ways(slot(0), {0: (("a", 1),)}, [HALF]), [([], (1, 1), (("a", 1),))])

    def test_draws_and_slots(self):
        term = op("*", slot(7), op("+", draw(1), draw(2)))
        self.assertEqual(term_ways(term, {7: 10}, [THREE, [(0, 2), (1, 1)], [(5, 3), (4, 1)]]), [
            ([(1, 0), (2, 0)], (1, 2), 50), ([(1, 0), (2, 1)], (1, 6), 40),
            ([(1, 1), (2, 0)], (1, 4), 60), ([(1, 1), (2, 1)], (1, 12), 50)])

    def test_what_the_slots_hold_leads_an_if(self):
        term = ("if", slot(0), draw(0), draw(1))
        draws = [THREE, HALF]
        self.assertEqual(term_ways(term, {0: 2}, draws),
                         [([(0, 0)], (1, 6), 7), ([(0, 1)], (1, 3), 8), ([(0, 2)], (1, 2), 9)])
        for value in (0, (("a", 1),)):
            self.assertEqual(term_ways(term, {0: value}, draws), [([(1, 0)], (1, 2), 0), ([(1, 1)], (1, 2), 1)])

    def test_binds(self):
        term = bind(4, draw(0), ("record", (("b", slot(4)), ("a", slot(4)))))
        self.assertEqual(term_ways(term, {}, [HALF]), [
            ([(0, 0)], (1, 2), (("a", 0), ("b", 0))), ([(0, 1)], (1, 2), (("a", 1), ("b", 1)))])

    def test_a_bound_above_1024(self):
        term = num(0)
        for site in range(11):
            term = op("+", term, draw(site))
        found = term_ways(term, {}, [HALF] * 11)
        self.assertEqual(len(found), 2048)
        self.assertEqual([[index for site, index in taken] for taken, share, value in found],
                         rows_of_choices([HALF] * 11))
        self.assertEqual([value for taken, share, value in found], [sum(row) for row in rows_of_choices([HALF] * 11)])
        self.assertEqual({share for taken, share, value in found}, {(1, 2048)})
        self.assertEqual(len(term_ways(draw(0), {}, [evenly(1500)])), 1500)

    def test_a_great_bound_and_few_ways(self):
        term = num(0)
        for site in range(60):
            term = ("if", slot(0), op("+", draw(site), term), num(site))
        self.assertEqual(term_ways(term, {0: 0}, [evenly(6)] * 60), [([], (1, 1), 59)])

    def test_deep_terms(self):
        term = draw(0)
        for each in range(30):
            term = op("+", term, num(1))
        self.assertEqual(term_ways(term, {}, [HALF]), [([(0, 0)], (1, 2), 30), ([(0, 1)], (1, 2), 31)])

    def test_as_told_with_a_listed_hand(self):
        for one in made_opened(60, 3, 150):
            held = {}
            for number, term in one.steps:
                for taken, share, value in term_ways(term, held, one.draws):
                    row = [0] * len(one.draws)
                    for site, index in taken:
                        row[site] = index
                    hand = Listed(row)
                    self.assertEqual(told(term, held, one.draws, hand), value)
                    self.assertEqual(hand.taken, taken)
                held[number] = told(term, held, one.draws, Hand())

    def test_what_is_handed_in_stays(self):
        held, draws = {0: 5}, [list(HALF), list(THREE)]
        found = term_ways(bind(0, draw(0), op("+", slot(0), draw(1))), held, draws)
        wanted = repr(found)
        self.assertEqual((held, draws), ({0: 5}, [HALF, THREE]))
        held.clear()
        draws[0].clear()
        draws.clear()
        self.assertEqual(repr(found), wanted)


class TestPlainTable(unittest.TestCase):
    def test_numbers(self):
        self.assertEqual(plain_table(opened_text("ask 7")), [(7, (1, 1))])
        self.assertEqual(plain_table(opened_text("ask flip(1/3)")), [(0, (2, 3)), (1, (1, 3))])
        self.assertEqual(plain_table(opened_text("ask pick(9:1, 3:2) * flip(1/2)")),
                         [(0, (1, 2)), (3, (1, 3)), (9, (1, 6))])
        self.assertEqual(plain_table(opened_text("ask flip(1/2) + flip(1/2)")), [(0, (1, 4)), (1, (1, 2)), (2, (1, 4))])

    def test_records_and_numbers(self):
        self.assertEqual(plain_table(opened_text("ask if(flip(1/3), {b: flip(1/2), a: 2}, pick(5:1, 4:1))")), [
            (4, (1, 3)), (5, (1, 3)), ((("a", 2), ("b", 0)), (1, 6)), ((("a", 2), ("b", 1)), (1, 6))])

    def test_what_is_seen(self):
        rows = ["let x = pick(1:1, 2:1, 3:1, 4:1)", "see 1 < x", "see x < 4", "ask x"]
        self.assertEqual(plain_table(opened_text(*rows)), [(2, (1, 2)), (3, (1, 2))])
        rows = ["let sick = flip(1/100)", "let sign = if(sick, flip(9/10), flip(1/10))", "see sign", "ask sick"]
        self.assertEqual(plain_table(opened_text(*rows)), [(0, (11, 12)), (1, (1, 12))])

    def test_an_outcome_that_counts_nothing_is_one(self):
        self.assertEqual(plain_table(opened_text("see 1", "ask 0")), [(0, (1, 1))])

    def test_never(self):
        for rows in (["see 0", "ask 1"], ["see flip(1/2) - 0 = 2", "ask flip(1/2)"], ["see {a: 1}", "ask 5"],
                     ["let x = flip(1/2)", "see x", "see 1 - x", "ask x"]):
            self.assertRaises(Never, plain_table, opened_text(*rows))

    def test_made_programs(self):
        for one in made_opened(150, 2, 150):
            if bound(one) <= 1024:
                wanted = table_by_rows(one)
                if wanted:
                    self.assertEqual(plain_table(one), wanted)
                else:
                    self.assertRaises(Never, plain_table, one)


if __name__ == "__main__":
    unittest.main()
