"""A keeper of graphs: promises 16 to 19, and what promise 2 says of it."""

import random
import unittest
from itertools import permutations, product

from flipwright.errors import NoOrder, TooMuch
from flipwright.graphs import Graphs
from making import A1, AB, beneath

OUTCOMES = [None, 0, 1, 2, 10 ** 12 - 1, (("a", 0),), A1, AB]


def total(outcomes):
    return sum(outcome for outcome in outcomes if isinstance(outcome, int))


def counts(outcome):
    return isinstance(outcome, int) and outcome != 0


def parts_beneath(graphs, part):
    found, waiting = set(), [part]
    while waiting:
        each = waiting.pop()
        if each not in found:
            found.add(each)
            held = graphs.at(each)
            waiting += held[2] if held[0] == "ask" else []
    return found


def all_kept(graphs):
    return [graphs.at(part) for part in range(graphs.size())]


def outcomes_at(graphs, part, widths):
    return [graphs.down(part, list(row)) for row in product(*[range(each) for each in widths])]


def odd_or_even(graphs, sites):
    """The part that leads to 1 where an odd number of these sites have the index 1, else to 0."""
    part = graphs.leaf(0)
    for site in sites:
        asked = graphs.asked(site, [graphs.leaf(0), graphs.leaf(1)])
        part = graphs.joined([part, asked], lambda outcomes: total(outcomes) % 2)
    return part


class TestParts(unittest.TestCase):
    def setUp(self):
        self.graphs = Graphs()
        self.zero, self.one, self.two = [self.graphs.leaf(number) for number in (0, 1, 2)]

    def test_numbered_as_they_are_kept(self):
        self.assertEqual([self.zero, self.one, self.two], [0, 1, 2])
        self.assertEqual(self.graphs.asked(3, [0, 1]), 3)
        self.assertEqual(self.graphs.leaf(7), 4)
        self.assertEqual(self.graphs.size(), 5)

    def test_an_empty_keeper(self):
        self.assertEqual(Graphs().size(), 0)

    def test_a_leaf_kept_twice(self):
        graphs = Graphs()
        parts = [graphs.leaf(outcome) for outcome in OUTCOMES]
        self.assertEqual(parts, list(range(len(OUTCOMES))))
        self.assertEqual([graphs.leaf(outcome) for outcome in OUTCOMES], parts)
        self.assertEqual([graphs.at(part) for part in parts], [("leaf", outcome) for outcome in OUTCOMES])
        self.assertEqual(graphs.leaf((("a", 0 + 1), ("b", 5))), parts[-1])
        self.assertEqual(graphs.size(), len(OUTCOMES))

    def test_a_question_kept_twice(self):
        part = self.graphs.asked(4, [self.zero, self.one])
        self.assertEqual(self.graphs.asked(4, [self.zero, self.one]), part)
        self.assertEqual(self.graphs.size(), 4)
        self.assertEqual(self.graphs.at(part), ("ask", 4, [self.zero, self.one]))

    def test_questions_that_are_not_alike(self):
        rows = [(4, [0, 1]), (4, [1, 0]), (5, [0, 1]), (4, [0, 2]), (0, [0, 1]), (99, [0, 1])]
        parts = [self.graphs.asked(site, children) for site, children in rows]
        self.assertEqual(parts, [3, 4, 5, 6, 7, 8])
        self.assertEqual([self.graphs.at(part) for part in parts], [("ask", *row) for row in rows])

    def test_a_question_whose_children_are_the_same(self):
        below = self.graphs.asked(6, [self.zero, self.one])
        for part in (self.zero, self.two, below):
            for many in range(1, 7):
                self.assertEqual(self.graphs.asked(5, [part] * many), part)
        self.assertEqual(self.graphs.size(), 4)

    def test_one_child(self):
        self.assertEqual(self.graphs.asked(0, [self.one]), self.one)
        self.assertEqual(self.graphs.size(), 3)

    def test_six_children(self):
        for children in ([0, 1, 2, 2, 1, 0], [0, 0, 0, 0, 0, 1], [1, 0, 0, 0, 0, 0]):
            part = self.graphs.asked(7, children)
            self.assertEqual(self.graphs.at(part), ("ask", 7, children))
            self.assertEqual([self.graphs.down(part, [9] * 7 + [index]) for index in range(6)], children)

    def test_children_of_greater_sites(self):
        below = self.graphs.asked(6, [self.zero, self.one])
        part = self.graphs.asked(5, [below, self.two])
        self.assertEqual(self.graphs.at(part), ("ask", 5, [below, self.two]))
        self.assertEqual(self.graphs.at(self.graphs.asked(0, [part, below])), ("ask", 0, [part, below]))

    def test_a_chain_of_all_sites(self):
        part = self.zero
        for site in reversed(range(100)):
            part = self.graphs.asked(site, [self.one, part])
        self.assertEqual(self.graphs.size(), 103)
        self.assertEqual(self.graphs.down(part, [1] * 100), 0)
        self.assertEqual(self.graphs.down(part, [1] * 99 + [0]), 1)
        self.assertEqual(len(self.graphs.listed(part)), 102)
        turned = self.graphs.joined([part, part], total)
        self.assertEqual(self.graphs.down(turned, [1] * 99 + [0]), 2)
        self.assertEqual(self.graphs.chosen(turned, self.graphs.leaf(1), self.graphs.leaf(0)), part)

    def test_the_list_that_was_handed_in_is_changed_behind(self):
        children = [self.zero, self.one]
        part = self.graphs.asked(2, children)
        self.assertEqual(children, [self.zero, self.one])
        children[0] = self.two
        children.append(self.two)
        self.assertEqual(self.graphs.at(part), ("ask", 2, [self.zero, self.one]))
        self.assertEqual(self.graphs.asked(2, [self.zero, self.one]), part)
        self.assertEqual(self.graphs.down(part, [0, 0, 0]), 0)

    def test_the_list_that_was_told_is_changed_behind(self):
        part = self.graphs.asked(2, [self.zero, self.one])
        self.graphs.at(part)[2].clear()
        self.graphs.at(part)[2].append(self.two)
        self.assertEqual(self.graphs.at(part), ("ask", 2, [self.zero, self.one]))
        self.assertIsNot(self.graphs.at(part)[2], self.graphs.at(part)[2])
        self.graphs.listed(part)[2][2].clear()
        self.graphs.listed(part).clear()
        self.assertEqual(self.graphs.listed(part), [("leaf", 0), ("leaf", 1), ("ask", 2, [0, 1])])

    def test_keepers_have_nothing_in_common(self):
        self.assertEqual(Graphs().leaf(2), 0)
        self.assertEqual(self.graphs.leaf(2), 2)

    def test_argument_names(self):
        graphs = Graphs(most=5)
        leaf, other = graphs.leaf(outcome=1), graphs.leaf(outcome=0)
        part = graphs.asked(site=3, children=[leaf, other])
        self.assertEqual(graphs.at(part=part), ("ask", 3, [leaf, other]))
        self.assertEqual(graphs.down(part=part, choices=[0, 0, 0, 1]), 0)
        self.assertEqual(graphs.joined(parts=[part, leaf], how=lambda outcomes: outcomes[0]), part)
        self.assertEqual(graphs.chosen(test=part, one=leaf, other=other), part)
        self.assertEqual(len(graphs.listed(part=part)), 3)


class TestNoOrder(unittest.TestCase):
    def setUp(self):
        self.graphs = Graphs()
        self.zero, self.one = self.graphs.leaf(0), self.graphs.leaf(1)
        self.low = self.graphs.asked(3, [self.zero, self.one])
        self.high = self.graphs.asked(8, [self.one, self.zero])

    def assert_no_order(self, graphs, site, children):
        before = all_kept(graphs)
        self.assertRaises(NoOrder, graphs.asked, site, children)
        self.assertEqual(all_kept(graphs), before)

    def test_the_same_and_a_lesser_site(self):
        for site in (3, 4, 7, 8, 99):
            for others in permutations([self.low, self.zero, self.high]):
                self.assert_no_order(self.graphs, site, list(others))
        for site in (8, 9, 99):
            self.assert_no_order(self.graphs, site, [self.zero, self.high])
            self.assert_no_order(self.graphs, site, [self.high, self.zero])

    def test_just_below(self):
        for children in ([self.low, self.zero], [self.high, self.low]):
            self.assertEqual(self.graphs.at(self.graphs.asked(2, children)), ("ask", 2, children))
        self.assertEqual(self.graphs.at(self.graphs.asked(7, [self.one, self.high])), ("ask", 7, [self.one, self.high]))

    def test_children_that_are_all_the_same(self):
        for many in (1, 2, 6):
            self.assert_no_order(self.graphs, 3, [self.low] * many)
            self.assert_no_order(self.graphs, 99, [self.low] * many)

    def test_a_question_beneath_itself(self):
        self.assert_no_order(self.graphs, 3, [self.low, self.one])
        self.assertEqual(self.graphs.asked(3, [self.zero, self.one]), self.low)

    def test_ahead_of_too_much(self):
        full = Graphs(3)
        part = full.asked(3, [full.leaf(0), full.leaf(1)])
        self.assert_no_order(full, 3, [part, 0])
        self.assert_no_order(full, 4, [0, part])
        self.assert_no_order(full, 5, [part, part])
        self.assertRaises(TooMuch, full.asked, 2, [part, 0])


class TestMost(unittest.TestCase):
    def test_as_many_as_told(self):
        graphs = Graphs(3)
        self.assertEqual([graphs.leaf(0), graphs.leaf(1), graphs.leaf(None)], [0, 1, 2])
        self.assertRaises(TooMuch, graphs.leaf, 2)
        self.assertRaises(TooMuch, graphs.leaf, A1)
        self.assertRaises(TooMuch, graphs.asked, 0, [0, 1])
        self.assertEqual(graphs.size(), 3)

    def test_a_question_more(self):
        graphs = Graphs(3)
        part = graphs.asked(0, [graphs.leaf(0), graphs.leaf(1)])
        self.assertRaises(TooMuch, graphs.asked, 0, [1, 0])
        self.assertRaises(TooMuch, graphs.asked, 1, [0, 1])
        self.assertEqual(graphs.at(part), ("ask", 0, [0, 1]))

    def test_what_is_kept_already_is_not_refused(self):
        graphs = Graphs(3)
        zero, one = graphs.leaf(0), graphs.leaf(1)
        part = graphs.asked(5, [zero, one])
        for each in range(2):
            self.assertEqual(graphs.leaf(0), zero)
            self.assertEqual(graphs.leaf(1), one)
            self.assertEqual(graphs.asked(5, [zero, one]), part)
            self.assertEqual(graphs.asked(2, [part, part]), part)
            self.assertEqual(graphs.asked(2, [one]), one)
            self.assertEqual(graphs.joined([part, part], lambda outcomes: min(outcomes)), part)
            self.assertEqual(graphs.chosen(part, one, zero), part)
            self.assertEqual(graphs.chosen(part, part, zero), part)
            self.assertRaises(TooMuch, graphs.leaf, 2)
        self.assertEqual(graphs.size(), 3)

    def test_what_was_kept_ahead_stays(self):
        graphs = Graphs(8)
        part = graphs.asked(5, [graphs.leaf(0), graphs.leaf(1)])
        other = graphs.asked(6, [graphs.leaf(0), graphs.leaf(10)])
        before, listed = all_kept(graphs), graphs.listed(part)
        self.assertRaises(TooMuch, graphs.joined, [part, other], lambda outcomes: 7 + total(outcomes))
        self.assertRaises(TooMuch, graphs.joined, [part, other], tuple)
        self.assertLessEqual(graphs.size(), 8)
        self.assertEqual(all_kept(graphs)[:len(before)], before)
        self.assertEqual(graphs.listed(part), listed)
        self.assertEqual(graphs.asked(5, [graphs.leaf(0), graphs.leaf(1)]), part)
        self.assertEqual(graphs.down(other, [0] * 6 + [1]), 10)

    def test_two_thousand_where_nothing_is_told(self):
        graphs = Graphs()
        self.assertEqual([graphs.leaf(number) for number in range(2000)], list(range(2000)))
        self.assertRaises(TooMuch, graphs.leaf, 2000)
        self.assertRaises(TooMuch, graphs.asked, 0, [0, 1])
        self.assertEqual(graphs.leaf(1999), 1999)
        self.assertEqual(graphs.size(), 2000)

    def test_other_counts(self):
        self.assertRaises(TooMuch, Graphs(0).leaf, 0)
        graphs = Graphs(2500)
        for number in range(2500):
            graphs.leaf(number)
        self.assertRaises(TooMuch, graphs.leaf, 2500)

    def test_joined_needs_just_what_lies_beneath(self):
        # Kept for the sum are the leaf 2, the question of 1 and 2, and the sum itself.
        for most in (7, 6):
            graphs = Graphs(most)
            part, other = [graphs.asked(site, [graphs.leaf(0), graphs.leaf(1)]) for site in range(2)]
            self.assertEqual(graphs.size(), 4)
            if most == 7:
                graphs.joined([part, other], total)
                self.assertEqual(graphs.size(), 7)
            else:
                self.assertRaises(TooMuch, graphs.joined, [part, other], total)


class TestDown(unittest.TestCase):
    def setUp(self):
        self.graphs = Graphs()
        self.leaves = [self.graphs.leaf(outcome) for outcome in OUTCOMES]
        self.low = self.graphs.asked(4, self.leaves[:3])
        self.top = self.graphs.asked(1, [self.low, self.leaves[6]])

    def test_leaves(self):
        for part, outcome in zip(self.leaves, OUTCOMES):
            for choices in ([], [0], [5] * 100):
                self.assertEqual(self.graphs.down(part, choices), outcome)

    def test_questions(self):
        for first, second in product(range(2), range(3)):
            wanted = A1 if first == 1 else OUTCOMES[second]
            self.assertEqual(self.graphs.down(self.top, [9, first, 9, 9, second]), wanted)
            self.assertEqual(self.graphs.down(self.low, [9, first, 9, 9, second]), OUTCOMES[second])

    def test_longer_rows(self):
        self.assertEqual(self.graphs.down(self.top, [0, 0, 0, 0, 2] + [7] * 60), 1)
        self.assertEqual(self.graphs.down(self.top, [0, 1]), A1)

    def test_the_row_stays(self):
        row = [0, 0, 0, 0, 2]
        self.graphs.down(self.top, row)
        self.assertEqual(row, [0, 0, 0, 0, 2])


class TestJoined(unittest.TestCase):
    def setUp(self):
        self.graphs = Graphs()
        self.first = self.graphs.asked(0, [self.graphs.leaf(0), self.graphs.leaf(1)])
        self.second = self.graphs.asked(1, [self.graphs.leaf(10), self.graphs.leaf(20), self.graphs.leaf(30)])
        self.odd = self.graphs.asked(2, [self.graphs.leaf(None), self.graphs.leaf(A1)])
        self.widths = [2, 3, 2]

    def assert_joined(self, parts, how):
        lists = [outcomes_at(self.graphs, part, self.widths) for part in parts]
        before = self.graphs.size()
        handed = list(parts)
        part = self.graphs.joined(handed, how)
        self.assertEqual(handed, parts)
        self.assertEqual(outcomes_at(self.graphs, part, self.widths), [how(list(each)) for each in zip(*lists)])
        self.assertLessEqual(set(range(before, self.graphs.size())), parts_beneath(self.graphs, part))
        return part

    def test_one_part(self):
        self.assert_joined([self.second], lambda outcomes: outcomes[0] % 20)
        self.assertEqual(self.assert_joined([self.second], lambda outcomes: outcomes[0]), self.second)
        self.assertEqual(self.assert_joined([self.second], lambda outcomes: 0), self.graphs.leaf(0))
        self.assert_joined([self.graphs.leaf(5)], lambda outcomes: outcomes[0] + 1)

    def test_two_parts(self):
        part = self.assert_joined([self.first, self.second], total)
        self.assertEqual(self.graphs.joined([self.second, self.first], total), part)
        self.assert_joined([self.first, self.first], total)
        self.assert_joined([self.first, self.first], lambda outcomes: 5 if outcomes[0] == outcomes[1] else 6)
        self.assert_joined([self.graphs.leaf(10), self.second], lambda outcomes: 1 if outcomes[0] == outcomes[1] else 0)

    def test_in_the_order_of_the_parts(self):
        how = lambda outcomes: outcomes[0] * 100 + outcomes[1]
        one = self.assert_joined([self.first, self.second], how)
        self.assertNotEqual(self.assert_joined([self.second, self.first], how), one)

    def test_more_parts(self):
        three = self.assert_joined([self.first, self.second, self.odd], total)
        self.assert_joined([three, self.first, self.odd, three, self.second, self.graphs.leaf(7), three], total)

    def test_none_and_records(self):
        self.assert_joined([self.odd], lambda outcomes: outcomes[0])
        self.assert_joined([self.odd], lambda outcomes: AB if outcomes[0] is None else None)
        self.assert_joined([self.first, self.odd], lambda outcomes: outcomes[1] if outcomes[0] == 1 else None)
        self.assert_joined([self.second, self.odd], lambda outcomes: (("z", total(outcomes)),))
        self.assertEqual(self.graphs.joined([self.odd, self.first], lambda outcomes: None), self.graphs.leaf(None))

    def test_a_function_that_changes_its_list(self):
        def spoiling(outcomes):
            told = total(outcomes)
            outcomes.reverse()
            outcomes.append("mine")
            outcomes[0] = None
            return told

        wanted = self.graphs.joined([self.first, self.second, self.odd], total)
        self.assertEqual(self.graphs.joined([self.first, self.second, self.odd], spoiling), wanted)
        self.assert_joined([self.first, self.second, self.odd], spoiling)

    def test_each_list_is_a_list(self):
        kinds = []
        self.graphs.joined([self.first, self.second], lambda outcomes: kinds.append(type(outcomes)))
        self.assertEqual(set(kinds), {list})

    def test_nothing_else_is_kept(self):
        before, zero, one = self.graphs.size(), self.graphs.leaf(0), self.graphs.leaf(1)
        self.assertEqual(self.graphs.joined([self.first, self.second, self.odd], lambda outcomes: 0), zero)
        self.assertEqual(self.graphs.size(), before)
        part = self.graphs.joined([self.first, self.second], lambda outcomes: 1 if outcomes[1] == 20 else 0)
        self.assertEqual(self.graphs.at(part), ("ask", 1, [zero, one, zero]))
        self.assertEqual(self.graphs.size(), before + 1)

    def test_parts_of_many_sites(self):
        part = odd_or_even(self.graphs, range(30))
        self.assertEqual(len(self.graphs.listed(part)), 2 * 30 + 1)
        self.assertEqual(self.graphs.down(part, [1] * 29 + [0]), 1)


class TestChosen(unittest.TestCase):
    def setUp(self):
        self.graphs = Graphs()
        leaf = self.graphs.leaf
        self.tests = self.graphs.asked(1, [leaf(outcome) for outcome in (None, 0, 1, 2, A1, (("a", 0),))])
        self.one = self.graphs.asked(0, [leaf(5), leaf(None)])
        self.other = self.graphs.asked(2, [leaf(AB), leaf(6)])
        self.widths = [2, 6, 2]

    def assert_chosen(self, test, one, other):
        lists = [outcomes_at(self.graphs, part, self.widths) for part in (test, one, other)]
        before = self.graphs.size()
        part = self.graphs.chosen(test, one, other)
        wanted = [second if counts(first) else third for first, second, third in zip(*lists)]
        self.assertEqual(outcomes_at(self.graphs, part, self.widths), wanted)
        self.assertLessEqual(set(range(before, self.graphs.size())), parts_beneath(self.graphs, part))
        return part

    def test_leaves(self):
        for outcome, wanted in ((0, self.other), (1, self.one), (2, self.one), (10 ** 12 - 1, self.one),
                                (None, self.other), (A1, self.other), (AB, self.other), ((("a", 0),), self.other)):
            self.assertEqual(self.graphs.chosen(self.graphs.leaf(outcome), self.one, self.other), wanted)

    def test_questions(self):
        for test, one, other in product((self.tests, self.one, self.other), repeat=3):
            self.assert_chosen(test, one, other)

    def test_alike_ways(self):
        self.assertEqual(self.assert_chosen(self.tests, self.one, self.one), self.one)
        test = self.graphs.asked(0, [self.graphs.leaf(0), self.graphs.leaf(7)])
        self.assertEqual(self.assert_chosen(test, self.graphs.leaf(7), self.graphs.leaf(0)), test)
        self.assertEqual(self.assert_chosen(test, test, self.graphs.leaf(0)), test)
        self.assertEqual(self.assert_chosen(test, self.graphs.leaf(7), test), test)

    def test_nothing_else_is_kept(self):
        always = self.graphs.asked(1, [self.graphs.leaf(number) for number in range(1, 7)])
        before = self.graphs.size()
        self.assertEqual(self.graphs.chosen(always, self.one, self.other), self.one)
        self.assertEqual(self.graphs.size(), before)
        self.graphs.chosen(self.tests, self.graphs.leaf(1), self.graphs.leaf(0))
        self.assertEqual(self.graphs.size(), before + 1)

    def test_parts_of_many_sites(self):
        first, second = odd_or_even(self.graphs, range(0, 40, 2)), odd_or_even(self.graphs, range(1, 40, 2))
        part = self.graphs.chosen(first, second, self.graphs.leaf(7))
        for row, wanted in (([0] * 40, 7), ([1] + [0] * 39, 0), ([1, 1] + [0] * 38, 1), ([0] * 38 + [1, 0], 0)):
            self.assertEqual(self.graphs.down(part, row), wanted)

    def test_a_test_of_many_parts_that_always_counts(self):
        parts = []
        for shift in range(3):
            part = self.graphs.leaf(1)
            for site in range(20 - shift, 0, -3):
                asked = self.graphs.asked(site, [self.graphs.leaf(0), self.graphs.leaf(1)])
                part = self.graphs.joined([part, asked], lambda outcomes: 2 * outcomes[0] + outcomes[1])
            parts.append(part)
        before = self.graphs.size()
        self.assertEqual(self.graphs.chosen(parts[0], parts[1], parts[2]), parts[1])
        self.assertEqual(self.graphs.size(), before)


class TestAlike(unittest.TestCase):
    """Parts made by chance, each kept with what it leads to at every row of choices."""

    def made(self, seed):
        chance = random.Random(seed)
        self.graphs = Graphs(5000)
        self.widths = [chance.choice([1, 2, 2, 3, 6]) for site in range(4)]
        self.rows = list(product(*[range(each) for each in self.widths]))
        self.found = {}
        for outcome in (None, 0, 1, 2, A1, AB):
            self.keep(self.graphs.leaf(outcome), [outcome] * len(self.rows))
        for each in range(60):
            self.make(chance)

    def keep(self, part, outcomes):
        self.assertEqual(outcomes_at(self.graphs, part, self.widths), outcomes)
        if part in self.found:
            self.assertEqual(self.found[part], outcomes)
        self.found[part] = outcomes

    def fits(self, part, site):
        held = self.graphs.at(part)
        return held[0] == "leaf" or held[1] > site

    def make(self, chance):
        before = self.graphs.size()
        way = chance.choice(["asked", "joined", "chosen"])
        if way == "asked":
            site = chance.randrange(4)
            parts = chance.choices([part for part in self.found if self.fits(part, site)], k=self.widths[site])
            part = self.graphs.asked(site, parts)
            outcomes = [self.found[parts[row[site]]][place] for place, row in enumerate(self.rows)]
        else:
            parts = chance.choices(list(self.found), k=3 if way == "chosen" else chance.randint(1, 4))
            lists = list(zip(*[self.found[part] for part in parts]))
            how = chance.choice([lambda outcomes: total(outcomes) % 3, lambda outcomes: outcomes[-1],
                                 lambda outcomes: (("a", total(outcomes) % 5),), lambda outcomes: outcomes.count(1)])
            if way == "joined":
                part, outcomes = self.graphs.joined(parts, how), [how(list(each)) for each in lists]
            else:
                part, outcomes = self.graphs.chosen(*parts), [each[1] if counts(each[0]) else each[2] for each in lists]
        self.assertLessEqual(set(range(before, self.graphs.size())), parts_beneath(self.graphs, part))
        self.keep(part, outcomes)

    def test_one_number_for_what_leads_alike(self):
        for seed in range(30):
            self.made(seed)
            unlike = {tuple(outcomes) for outcomes in self.found.values()}
            self.assertEqual(len(unlike), len(self.found))

    def test_as_many_parts_as_there_are_unlike_ones_beneath(self):
        for seed in range(30, 60):
            self.made(seed)
            wanted = set()
            for part, outcomes in self.found.items():
                wanted |= beneath(outcomes, self.widths)
                self.assertEqual(len(self.graphs.listed(part)), len(beneath(outcomes, self.widths)))
            self.assertEqual(self.graphs.size(), len(wanted))

    def test_made_in_other_orders(self):
        graphs = Graphs()
        parts = [graphs.asked(site, [graphs.leaf(0), graphs.leaf(1)]) for site in range(4)]
        found = set()
        for order in permutations(parts):
            part = order[0]
            for each in order[1:]:
                part = graphs.joined([part, each], total)
            found.add(part)
        self.assertEqual(len(found), 1)
        self.assertEqual(found, {graphs.joined(list(reversed(parts)), total)})

    def test_made_in_other_ways(self):
        graphs = Graphs()
        zero, one = graphs.leaf(0), graphs.leaf(1)
        first, second = graphs.asked(0, [zero, one]), graphs.asked(1, [zero, one])
        both = graphs.asked(0, [zero, second])
        self.assertEqual(graphs.joined([first, second], min), both)
        self.assertEqual(graphs.joined([second, first], lambda outcomes: outcomes[0] * outcomes[1]), both)
        self.assertEqual(graphs.chosen(first, second, zero), both)
        self.assertEqual(graphs.chosen(second, first, second), both)
        self.assertNotEqual(graphs.joined([first, second], max), both)
        self.assertNotEqual(graphs.joined([first, second], total), both)
        self.assertNotEqual(graphs.chosen(first, zero, second), both)


class TestListed(unittest.TestCase):
    def setUp(self):
        self.graphs = Graphs()
        self.zero, self.one, self.two = [self.graphs.leaf(number) for number in (0, 1, 2)]

    def test_leaves(self):
        for outcome in OUTCOMES:
            self.assertEqual(self.graphs.listed(self.graphs.leaf(outcome)), [("leaf", outcome)])

    def test_the_first_child_first(self):
        part = self.graphs.asked(3, [self.two, self.zero, self.one])
        self.assertEqual(self.graphs.listed(part), [("leaf", 2), ("leaf", 0), ("leaf", 1), ("ask", 3, [0, 1, 2])])

    def test_alike_children(self):
        part = self.graphs.asked(3, [self.one, self.zero, self.one])
        self.assertEqual(self.graphs.listed(part), [("leaf", 1), ("leaf", 0), ("ask", 3, [0, 1, 0])])

    def test_shared_parts(self):
        low = self.graphs.asked(7, [self.one, self.zero])
        left = self.graphs.asked(5, [self.two, low])
        right = self.graphs.asked(6, [low, self.zero])
        top = self.graphs.asked(2, [left, right, low])
        self.assertEqual(self.graphs.listed(top), [
            ("leaf", 2), ("leaf", 1), ("leaf", 0), ("ask", 7, [1, 2]), ("ask", 5, [0, 3]), ("ask", 6, [3, 2]),
            ("ask", 2, [4, 5, 3])])
        self.assertEqual(self.graphs.listed(right), [
            ("leaf", 1), ("leaf", 0), ("ask", 7, [0, 1]), ("ask", 6, [2, 1])])

    def test_nothing_else_is_listed_and_nothing_kept(self):
        part = self.graphs.asked(4, [self.zero, self.one])
        self.graphs.asked(3, [self.two, part])
        before = self.graphs.size()
        self.assertEqual(self.graphs.listed(part), [("leaf", 0), ("leaf", 1), ("ask", 4, [0, 1])])
        self.assertEqual(self.graphs.size(), before)

    def test_lists_hang_not_on_the_keeper(self):
        other = Graphs()
        for number in (9, 2, 1, 0):
            other.leaf(number)
        lists = []
        for graphs in (self.graphs, other):
            zero, one, two = [graphs.leaf(number) for number in (0, 1, 2)]
            lists.append(graphs.listed(graphs.asked(1, [graphs.asked(2, [two, one]), zero])))
        self.assertEqual(lists[0], lists[1])


if __name__ == "__main__":
    unittest.main()
