"""Draws by numbers: promises 32 and 33, and what promises 2 and 3 say of them."""

import unittest
from collections import Counter
from fractions import Fraction
from itertools import product
from math import prod

from flipwright.drawing import Drawer, Numbered, bases
from flipwright.errors import Never, NoNumber, TooMuch
from flipwright.opening import Opened
from flipwright.running import Hand, run
from flipwright.weighing import graph_of, graph_table
from making import (AB, HALF, THIRD, THREE, answer, as_table, draw, evenly, made_opened, num, op, opened_text,
                    rows_of_choices, shape, slot, table_by_rows)

SICK = ["let sick = flip(1/10)", "let sign = if(sick, flip(4/5), flip(1/5))", "see sign", "ask sick"]


def rows_of_numbers(one):
    return [list(row) for row in product(*[range(base) for base in bases(one)])]


def few_rows(most):
    """Made programs with at most so many rows of numbers."""
    found = [one for depth in (1, 2, 3) for one in made_opened(400, depth, 40)]
    return [one for one in found if prod(sum(weight for number, weight in each) for each in one.draws) <= most]


def ways_down(parts, place, begun):
    """The ways from a part to leaves that aren't None, as lists of pairs, in order, each with its outcome."""
    part = parts[place]
    if part[0] == "leaf":
        return [] if part[1] is None else [(begun, part[1])]
    return [way for index, child in enumerate(part[2]) for way in ways_down(parts, child, begun + [(part[1], index)])]


def rows_along(one, way):
    """How many rows of numbers lead along a way: those whose choices are the way's, whatever the others."""
    return prod(each[dict(way)[site]][1] if site in dict(way) else sum(weight for number, weight in each)
                for site, each in enumerate(one.draws))


def spans_by_ways(one):
    parts = graph_of(one)
    found, begin = [], 0
    for way, outcome in ways_down(parts, len(parts) - 1, []):
        found.append((begin, begin + rows_along(one, way), way, outcome))
        begin = found[-1][1]
    return found


class TestBases(unittest.TestCase):
    def test_flips_and_picks(self):
        self.assertEqual(bases(opened_text("ask 7")), [])
        self.assertEqual(bases(opened_text("let x = flip(1/3)", "ask pick(5:4, 0:7) + flip(999999/1000000)")),
                         [3, 11, 1000000])
        self.assertEqual(bases(opened_text("ask pick(5:1)")), [1])

    def test_draws_that_stand_in_no_step(self):
        self.assertEqual(bases(Opened([(0, draw(1))], [THREE, HALF, THIRD, [(5, 9)]], 1)), [6, 2, 3, 9])

    def test_what_is_told_is_the_askers_own(self):
        one = opened_text("ask flip(1/2)")
        before = shape(one)
        bases(one=one).append(5)
        self.assertEqual(bases(one), [2])
        self.assertEqual(shape(one), before)


class TestNumbered(unittest.TestCase):
    def test_the_borders_of_the_weights(self):
        weights = [(7, 3), (0, 1), (9, 4)]
        taken = [Numbered([number]).take(0, weights) for number in range(8)]
        self.assertEqual(taken, [0, 0, 0, 1, 2, 2, 2, 2])
        self.assertEqual([Numbered([number]).take(0, THIRD) for number in range(3)], [0, 0, 1])
        self.assertEqual(Numbered([0]).take(0, [(5, 1)]), 0)
        great = [(0, 1), (1, 999999)]
        self.assertEqual([Numbered([number]).take(0, great) for number in (0, 1, 999999)], [0, 1, 1])

    def test_the_number_of_its_own_draw(self):
        hand = Numbered([0, 5, 2])
        self.assertEqual(hand.take(2, THIRD), 1)
        self.assertEqual(hand.take(0, THIRD), 0)
        self.assertEqual(hand.take(1, THREE), 2)
        self.assertEqual(hand.taken, [(2, 1), (0, 0), (1, 2)])

    def test_it_is_a_hand_and_keeps_what_was_taken(self):
        hand = Numbered(numbers=[1, 4])
        self.assertIsInstance(hand, Hand)
        self.assertEqual(hand.taken, [])
        one = opened_text("let x = flip(1/2)", "ask {a: x, b: pick(3:1, 4:3, 5:1)}")
        self.assertEqual(run(one, hand), AB)
        self.assertEqual(hand.taken, [(0, 1), (1, 2)])

    def test_it_keeps_a_copy_of_the_row(self):
        row = [0, 2]
        hand = Numbered(row)
        row[0] = 1
        row.pop()
        self.assertEqual((hand.take(0, HALF), hand.take(1, THIRD)), (0, 1))
        self.assertEqual(row, [1])

    def test_the_draw_stays_as_it_is(self):
        weights = list(THREE)
        Numbered([3]).take(0, weights)
        self.assertEqual(weights, THREE)

    def test_each_row_of_choices_comes_as_often_as_the_product_of_its_weights(self):
        for one in few_rows(100):
            found = Counter(tuple(Numbered(row).take(site, each) for site, each in enumerate(one.draws))
                            for row in rows_of_numbers(one))
            self.assertEqual(found, {tuple(row): prod(each[index][1] for each, index in zip(one.draws, row))
                                     for row in rows_of_choices(one.draws)})

    def test_each_answer_comes_for_its_share_over_all_rows_of_numbers(self):
        told_of = 0
        for one in few_rows(200):
            found = Counter(run(one, Numbered(row)) for row in rows_of_numbers(one))
            many = sum(found.values()) - found[None]
            if many:
                shares = {outcome: Fraction(each, many) for outcome, each in found.items() if outcome is not None}
                self.assertEqual(as_table(shares), table_by_rows(one))
                self.assertEqual(Drawer(one).many, many)
                told_of += 1
            else:
                self.assertRaises(Never, Drawer, one)
        self.assertGreater(told_of, 100)


class TestDrawer(unittest.TestCase):
    def test_the_count(self):
        self.assertEqual(Drawer(opened_text(*SICK)).many, 4 * 5 + 9 * 5)
        self.assertEqual(Drawer(opened_text("ask flip(1/3) + pick(2:3, 0:4)")).many, 21)
        self.assertEqual(Drawer(opened_text("ask 5")).many, 1)

    def test_draws_that_nothing_hangs_on_count(self):
        self.assertEqual(Drawer(opened_text("let x = flip(1/3)", "ask 5")).many, 3)
        self.assertEqual(Drawer(Opened([(0, draw(1))], [THREE, HALF, THIRD], 1)).many, 36)

    def test_drawn(self):
        drawer = Drawer(opened_text(*SICK))
        # Not sick comes 9 of 10 times, a sign then 1 of 5 times, whichever of five numbers the other draw has.
        for number in (0, 1, 44):
            self.assertEqual(drawer.drawn(number), ([(0, 0), (2, 1)], 0))
        for number in (45, 46, 64):
            self.assertEqual(drawer.drawn(number), ([(0, 1), (1, 1)], 1))

    def test_ways_in_order_by_their_indexes(self):
        drawer = Drawer(opened_text("ask pick(9:2, 3:1, 5:1) * 10 + pick(8:1, 6:1)"))
        found = [drawer.drawn(number) for number in range(drawer.many)]
        self.assertEqual([outcome for way, outcome in found], [98, 98, 96, 96, 38, 36, 58, 56])
        self.assertEqual(found[3], ([(0, 0), (1, 1)], 96))

    def test_ways_of_one_answer_stay_apart(self):
        drawer = Drawer(opened_text("ask flip(1/2) + flip(1/2)"))
        self.assertEqual([drawer.drawn(number) for number in range(4)], [
            ([(0, 0), (1, 0)], 0), ([(0, 0), (1, 1)], 1), ([(0, 1), (1, 0)], 1), ([(0, 1), (1, 1)], 2)])

    def test_the_way_asks_only_what_the_graph_does(self):
        drawer = Drawer(opened_text("let x = flip(1/2)", "let y = pick(1:1, 2:1, 3:1)", "ask if(x, y, 7)"))
        self.assertEqual([drawer.drawn(number) for number in (0, 2, 3, 4, 5)], [
            ([(0, 0)], 7), ([(0, 0)], 7), ([(0, 1), (1, 0)], 1), ([(0, 1), (1, 1)], 2), ([(0, 1), (1, 2)], 3)])

    def test_never(self):
        for rows in (["see 0", "ask 1"], ["let x = flip(1/2)", "see x = 2", "ask flip(1/2)"],
                     ["let x = flip(1/2)", "see x", "see 1 - x", "ask x"]):
            self.assertRaises(Never, Drawer, opened_text(*rows))

    def test_no_number(self):
        drawer = Drawer(opened_text(*SICK))
        for number in (-1, -65, -10 ** 1900, 65, 66, 100, 10 ** 1900):
            self.assertRaises(NoNumber, drawer.drawn, number)
        self.assertEqual(drawer.drawn(0)[1], 0)
        self.assertEqual(drawer.drawn(64)[1], 1)

    def test_a_graph_of_one_leaf(self):
        drawer = Drawer(opened_text("ask {b: 5, a: 1}"))
        self.assertEqual((drawer.many, drawer.drawn(0), drawer.spans()), (1, ([], AB), [(0, 1, [], AB)]))
        for number in (-1, 1):
            self.assertRaises(NoNumber, drawer.drawn, number)
        drawer = Drawer(opened_text("let x = flip(1/3)", "see x + 1", "ask x * 0 + pick(4:2)"))
        self.assertEqual((drawer.many, drawer.drawn(5), drawer.spans()), (6, ([], 4), [(0, 6, [], 4)]))
        self.assertRaises(NoNumber, drawer.drawn, 6)

    def test_too_much_as_the_graphs_keeper(self):
        one = opened_text("let x = 0", "again 30 x = x + x + flip(1/2)", "ask x")
        self.assertRaises(TooMuch, graph_of, one)
        self.assertRaises(TooMuch, Drawer, one)
        self.assertRaises(TooMuch, Drawer, opened_text("let x = 0", "again 30 x = x + x + flip(1/2)", "see 0", "ask x"))

    def test_sixty_draws(self):
        rows = ["let x = 1", "again 30 x = x * pick(1:999999, 0:1)", "again 30 x = x * pick(1:999999, 0:1)"]
        drawer = Drawer(opened_text(*rows, "ask x + 4"))
        self.assertEqual(drawer.many, 10 ** 360)
        self.assertEqual(drawer.drawn(0), ([(site, 0) for site in range(60)], 5))
        self.assertEqual(drawer.drawn(999999 ** 60 - 1), ([(site, 0) for site in range(60)], 5))
        self.assertEqual(drawer.drawn(999999 ** 60), ([(site, 0) for site in range(59)] + [(59, 1)], 4))
        self.assertEqual(drawer.drawn(10 ** 360 - 1), ([(0, 1)], 4))
        self.assertEqual(len(drawer.spans()), 61)

    def test_over_all_numbers_each_answer_comes_for_its_share(self):
        told_of = 0
        for one in few_rows(400):
            if answer(Drawer, one) == Never:
                self.assertEqual(table_by_rows(one), [])
                continue
            drawer = Drawer(one)
            found = Counter(drawer.drawn(number)[1] for number in range(drawer.many))
            shares = {outcome: Fraction(many, drawer.many) for outcome, many in found.items()}
            self.assertEqual(as_table(shares), graph_table(one))
            told_of += 1
        self.assertGreater(told_of, 200)

    def test_what_is_told_is_the_askers_own(self):
        one = opened_text(*SICK)
        before = shape(one)
        drawer = Drawer(one=one)
        drawer.drawn(number=0)[0].append("mine")
        spans = drawer.spans()
        for begin, end, way, outcome in spans:
            way.append("mine")
        spans.clear()
        self.assertEqual(drawer.drawn(0), ([(0, 0), (2, 1)], 0))
        self.assertEqual(drawer.spans(), [(0, 45, [(0, 0), (2, 1)], 0), (45, 65, [(0, 1), (1, 1)], 1)])
        self.assertEqual(shape(one), before)

    def test_what_is_done_later_changes_nothing(self):
        one = opened_text(*SICK)
        drawer = Drawer(one)
        for each in one.draws:
            each.clear()
        one.draws.clear()
        one.steps.clear()
        self.assertEqual(drawer.many, 65)
        self.assertEqual(drawer.drawn(45), ([(0, 1), (1, 1)], 1))
        self.assertEqual(drawer.spans()[0], (0, 45, [(0, 0), (2, 1)], 0))


class TestSpans(unittest.TestCase):
    def test_ordinary(self):
        drawer = Drawer(opened_text("ask pick(9:2, 3:1) * 10 + pick(8:3, 6:1)"))
        self.assertEqual(drawer.spans(), [
            (0, 6, [(0, 0), (1, 0)], 98), (6, 8, [(0, 0), (1, 1)], 96), (8, 11, [(0, 1), (1, 0)], 38),
            (11, 12, [(0, 1), (1, 1)], 36)])

    def test_ways_to_none_have_no_span(self):
        drawer = Drawer(opened_text("let x = pick(1:1, 2:2, 3:3, 4:4, 5:5)", "see x = 2 + (x = 4) * 2", "ask x"))
        self.assertEqual(drawer.spans(), [(0, 2, [(0, 1)], 2), (2, 6, [(0, 3)], 4)])
        drawer = Drawer(opened_text("let x = pick(1:1, 2:2, 3:3, 4:4, 5:5)", "see 4 < x", "ask x"))
        self.assertEqual(drawer.spans(), [(0, 5, [(0, 4)], 5)])

    def test_made_programs(self):
        seen = 0
        for one in few_rows(10 ** 5):
            if answer(Drawer, one) == Never:
                continue
            drawer = Drawer(one)
            found = drawer.spans()
            self.assertEqual(found, spans_by_ways(one))
            self.assertEqual((found[0][0], found[-1][1]), (0, drawer.many))
            for begin, end, way, outcome in found:
                for number in {begin, end - 1, (begin + end) // 2}:
                    self.assertEqual(drawer.drawn(number), (way, outcome))
            seen += 1
        self.assertGreater(seen, 300)

    def test_just_1024_ways_and_one_more(self):
        # x asks of all ten flips on each way, y is 1 on the way of ten ones alone.
        rows = ["let b = flip(1/2)", "let x = b", "let y = b"]
        for each in range(9):
            rows += ["let b = flip(1/2)", "let x = 1 - (x = b)", "let y = y * b"]
        one = opened_text(*rows, "ask x")
        self.assertEqual(len(Drawer(one).spans()), 1024)
        self.assertEqual(Drawer(one).spans(), spans_by_ways(one))
        drawer = Drawer(opened_text(*rows, "ask if(y, 5 + flip(1/3), x)"))
        self.assertRaises(TooMuch, drawer.spans)
        self.assertEqual(drawer.many, 3 * 1024)
        self.assertEqual(drawer.drawn(0), ([(site, 0) for site in range(10)], 0))
        self.assertEqual(drawer.drawn(3), ([(site, 0) for site in range(9)] + [(9, 1)], 1))
        ones = [(site, 1) for site in range(10)]
        self.assertEqual(drawer.drawn(3 * 1024 - 2), (ones + [(10, 0)], 5))
        self.assertEqual(drawer.drawn(3 * 1024 - 1), (ones + [(10, 1)], 6))
        # Of these ways one leads to None here, and doesn't count.
        seen = opened_text(*rows, "let z = if(y, 5 + flip(1/3), x)", "see 1 - (z = 5)", "ask z")
        self.assertEqual(len(Drawer(seen).spans()), 1024)
        self.assertEqual(Drawer(seen).spans()[-1], (3 * 1023, 3 * 1023 + 1, ones + [(10, 1)], 6))

    def test_far_too_many_ways_while_drawn_still_tells(self):
        drawer = Drawer(opened_text("let x = 0", "again 18 x = 1 - (x = flip(1/2))", "ask x"))
        self.assertRaises(TooMuch, drawer.spans)
        self.assertEqual(drawer.many, 2 ** 18)
        for number in (0, 1, 5, 2 ** 17, 2 ** 18 - 2, 2 ** 18 - 1):
            way = [(site, number >> (17 - site) & 1) for site in range(18)]
            self.assertEqual(drawer.drawn(number), (way, number.bit_count() % 2))
        self.assertRaises(NoNumber, drawer.drawn, 2 ** 18)
        self.assertRaises(TooMuch, drawer.spans)

    def test_wide_draws(self):
        one = Opened([(0, draw(0)), (1, op("+", slot(0), draw(1)))], [evenly(6), [(0, 1), (10, 10 ** 6)]], 2)
        self.assertEqual(Drawer(one).spans(), spans_by_ways(one))


if __name__ == "__main__":
    unittest.main()
