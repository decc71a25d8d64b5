"""Outcomes in order and tables: promises 5 and 6, and what promise 2 says of them."""

import unittest
from itertools import permutations

from flipwright.errors import Never
from flipwright.ratios import fraction
from flipwright.tables import draw_shares, in_order, mixed, scaled, share_of, table, total, turned, without

MOST = 10 ** 12 - 1
# In order: None, numbers by size, records as Python's tuples are ordered.
ORDERED = [
    None,
    0,
    1,
    9,
    10,
    MOST,
    (("a", 0),),
    (("a", 0), ("b", 5)),
    (("a", 2),),
    (("a", 10),),
    (("aa", 1),),
    (("ab", 0), ("b", 0)),
    (("b", 0),),
    (("b", 0), ("c", 0)),
    (("b", 0), ("c", 1)),
    (("z", MOST),),
]
A = (("a", 1),)
AB = (("a", 1), ("b", 2))

HALVES = [(0, (1, 2)), (1, (1, 2))]
THIRDS = [(None, (1, 3)), (1, (1, 3)), (A, (1, 3))]


class TestInOrder(unittest.TestCase):
    def test_every_order_of_some(self):
        some = [None, 0, 7, 10, A, AB]
        for outcomes in permutations(some):
            self.assertEqual(in_order(list(outcomes)), some)

    def test_many_from_all_sides(self):
        self.assertEqual(in_order(ORDERED), ORDERED)
        self.assertEqual(in_order(ORDERED[::-1]), ORDERED)
        self.assertEqual(in_order(ORDERED[5:] + ORDERED[:5]), ORDERED)
        self.assertEqual(in_order(ORDERED[::2] + ORDERED[1::2]), ORDERED)

    def test_each_two(self):
        for low, one in enumerate(ORDERED):
            for other in ORDERED[low + 1:]:
                self.assertEqual(in_order([one, other]), [one, other])
                self.assertEqual(in_order([other, one]), [one, other])

    def test_alike_ones_once(self):
        self.assertEqual(in_order([None, None]), [None])
        self.assertEqual(in_order([3, 0, 3, 3, 0]), [0, 3])
        self.assertEqual(in_order([A, None, (("a", 1),), 1, None, AB, 1]), [None, 1, A, AB])
        self.assertEqual(in_order(ORDERED + ORDERED[::-1]), ORDERED)

    def test_none_and_0_and_a_record_are_not_alike(self):
        self.assertEqual(in_order([(("a", 0),), 0, None]), [None, 0, (("a", 0),)])

    def test_the_empty_list(self):
        self.assertEqual(in_order([]), [])

    def test_records_of_six_pairs(self):
        less = tuple((field, 0) for field in "abcdef")
        more = less[:5] + (("f", 1),)
        other = less[:5] + (("ff", 0),)
        self.assertEqual(in_order([other, more, less, less[:5]]), [less[:5], less, more, other])

    def test_two_thousand(self):
        self.assertEqual(in_order(list(range(1999, -1, -1))), list(range(2000)))

    def test_the_list_handed_in_stays_and_the_told_one_is_new(self):
        for outcomes in ([], [1, None, A, 1], [None, 1, 2]):
            kept = list(outcomes)
            told = in_order(outcomes)
            self.assertEqual(outcomes, kept)
            self.assertIsNot(told, outcomes)
            wanted = list(told)
            outcomes.append(5)
            self.assertEqual(told, wanted)
            told.append(6)
            self.assertEqual(in_order(kept), wanted)

    def test_argument_name(self):
        self.assertEqual(in_order(outcomes=[2, 1]), [1, 2])


class TestTable(unittest.TestCase):
    def test_pairs_in_any_order(self):
        wanted = [(None, (1, 4)), (0, (1, 8)), (12, (1, 8)), (A, (1, 4)), (AB, (1, 4))]
        for pairs in permutations(wanted):
            self.assertEqual(table(list(pairs)), wanted)

    def test_all_kinds_of_outcomes(self):
        wanted = [(outcome, (1, 16)) for outcome in ORDERED]
        self.assertEqual(table(wanted[::-1]), wanted)

    def test_alike_outcomes_are_added_up(self):
        pairs = [(1, (1, 6)), (None, (1, 4)), (1, (1, 3)), (A, (1, 2)), (None, (1, 4)), ((("a", 1),), (1, 2))]
        self.assertEqual(table(pairs), [(None, (1, 2)), (1, (1, 2)), (A, (1, 1))])

    def test_shares_may_add_up_to_more_than_one(self):
        self.assertEqual(table([(0, (3, 2)), (0, (5, 2))]), [(0, (4, 1))])

    def test_shares_of_nought_are_left_out(self):
        self.assertEqual(table([(0, (0, 1))]), [])
        self.assertEqual(table([(0, (0, 1)), (None, (0, 1)), (0, (0, 1))]), [])
        self.assertEqual(table([(2, (1, 2)), (1, (0, 1)), (A, (0, 1))]), [(2, (1, 2))])
        self.assertEqual(table([(2, (0, 1)), (2, (1, 2)), (2, (0, 1))]), [(2, (1, 2))])

    def test_none_as_an_outcome(self):
        self.assertEqual(table([(0, (1, 2)), (None, (1, 2))]), [(None, (1, 2)), (0, (1, 2))])

    def test_the_empty_table(self):
        self.assertEqual(table([]), [])

    def test_two_thousand_pairs(self):
        pairs = [(number % 2, (1, number)) for number in range(2000, 0, -1)]
        told = table(pairs)
        even = (0, 1)
        for number in range(2, 2001, 2):
            even = fraction(even[0] * number + even[1], even[1] * number)
        self.assertEqual([outcome for outcome, share in told], [0, 1])
        self.assertEqual(told[0][1], even)

    def test_pairs_and_shares_are_tuples(self):
        for pair in table([(1, (1, 2)), (0, (1, 4)), (0, (1, 4))]):
            self.assertIs(type(pair), tuple)
            self.assertIs(type(pair[1]), tuple)


class TestTotal(unittest.TestCase):
    def test_sums(self):
        self.assertEqual(total(HALVES), (1, 1))
        self.assertEqual(total(THIRDS), (1, 1))
        self.assertEqual(total([(0, (1, 6)), (5, (1, 3))]), (1, 2))
        self.assertEqual(total([(None, (7, 2)), (A, (1, 3))]), (23, 6))
        self.assertEqual(total([(A, (3, 7))]), (3, 7))

    def test_of_the_empty_table(self):
        self.assertEqual(total([]), (0, 1))


class TestScaled(unittest.TestCase):
    def test_divides_by_the_total(self):
        self.assertEqual(scaled([(0, (1, 6)), (5, (1, 3))]), [(0, (1, 3)), (5, (2, 3))])
        self.assertEqual(scaled([(None, (3, 1)), (A, (1, 1))]), [(None, (3, 4)), (A, (1, 4))])
        self.assertEqual(scaled([(A, (3, 7))]), [(A, (1, 1))])
        self.assertEqual(scaled(HALVES), HALVES)

    def test_its_total_is_one(self):
        for last in range(1, 30):
            pairs = [(number, (1, number + 2)) for number in range(last)]
            self.assertEqual(total(scaled(pairs)), (1, 1))

    def test_refused_where_there_is_no_total(self):
        with self.assertRaises(Never):
            scaled([])
        with self.assertRaises(Never):
            scaled(table([(3, (0, 1))]))


class TestMixed(unittest.TestCase):
    def test_of_two(self):
        self.assertEqual(mixed([((1, 4), HALVES), ((3, 4), [(1, (1, 3)), (2, (2, 3))])]),
                         [(0, (1, 8)), (1, (3, 8)), (2, (1, 2))])

    def test_outcomes_come_in_order(self):
        self.assertEqual(mixed([((1, 2), [(A, (1, 1))]), ((1, 4), [(7, (1, 1))]), ((1, 4), [(None, (1, 1))])]),
                         [(None, (1, 4)), (7, (1, 4)), (A, (1, 2))])

    def test_fractions_above_one(self):
        self.assertEqual(mixed([((6, 1), THIRDS)]), [(None, (2, 1)), (1, (2, 1)), (A, (2, 1))])

    def test_fractions_of_nought(self):
        self.assertEqual(mixed([((0, 1), THIRDS)]), [])
        self.assertEqual(mixed([((0, 1), THIRDS), ((1, 2), HALVES)]), [(0, (1, 4)), (1, (1, 4))])
        self.assertEqual(mixed([((1, 2), HALVES), ((0, 1), HALVES)]), [(0, (1, 4)), (1, (1, 4))])

    def test_empty_tables(self):
        self.assertEqual(mixed([((1, 2), [])]), [])
        self.assertEqual(mixed([((0, 1), []), ((1, 1), HALVES), ((1, 2), [])]), HALVES)

    def test_no_parts(self):
        self.assertEqual(mixed([]), [])


class TestWithout(unittest.TestCase):
    def test_an_outcome_that_is_there(self):
        self.assertEqual(without(THIRDS, None), THIRDS[1:])
        self.assertEqual(without(THIRDS, 1), [THIRDS[0], THIRDS[2]])
        self.assertEqual(without(THIRDS, (("a", 1),)), THIRDS[:2])
        self.assertEqual(without([(0, (1, 1))], 0), [])

    def test_an_outcome_that_is_not_there(self):
        self.assertEqual(without(THIRDS, 0), THIRDS)
        self.assertEqual(without(THIRDS, AB), THIRDS)
        self.assertEqual(without(HALVES, None), HALVES)
        self.assertEqual(without([], None), [])


class TestTurned(unittest.TestCase):
    def test_each_outcome_becomes_what_is_told(self):
        self.assertEqual(turned([(1, (1, 3)), (2, (2, 3))], lambda outcome: 10 - outcome),
                         [(8, (2, 3)), (9, (1, 3))])

    def test_such_as_become_alike_are_added_up(self):
        pairs = [(number, (1, 6)) for number in range(6)]
        self.assertEqual(turned(pairs, lambda outcome: outcome % 2), [(0, (1, 2)), (1, (1, 2))])
        self.assertEqual(turned(THIRDS, lambda outcome: None), [(None, (1, 1))])
        self.assertEqual(turned(THIRDS, lambda outcome: AB), [(AB, (1, 1))])

    def test_asked_with_none_and_records_and_telling_them(self):
        changes = {None: A, 1: None, A: 1}
        self.assertEqual(turned([(None, (1, 2)), (1, (1, 3)), (A, (1, 6))], lambda outcome: changes[outcome]),
                         [(None, (1, 3)), (1, (1, 6)), (A, (1, 2))])

    def test_by_itself(self):
        self.assertEqual(turned(THIRDS, lambda outcome: outcome), THIRDS)

    def test_of_the_empty_table(self):
        self.assertEqual(turned([], lambda outcome: 1), [])

    def test_a_function_that_changes_the_handed_list(self):
        pairs = list(THIRDS)

        def how(outcome):
            pairs.clear()
            return outcome

        self.assertEqual(turned(pairs, how), THIRDS)


class TestShareOf(unittest.TestCase):
    def test_an_outcome_that_is_there(self):
        pairs = [(None, (1, 2)), (0, (1, 4)), (A, (1, 8)), (AB, (1, 8))]
        for outcome, share in pairs:
            self.assertEqual(share_of(pairs, outcome), share)
        self.assertEqual(share_of(pairs, (("a", 1),)), (1, 8))

    def test_an_outcome_that_is_not_there(self):
        self.assertEqual(share_of(THIRDS, 0), (0, 1))
        self.assertEqual(share_of(THIRDS, AB), (0, 1))
        self.assertEqual(share_of(HALVES, None), (0, 1))
        self.assertEqual(share_of([], None), (0, 1))


class TestListsOfTheAsker(unittest.TestCase):
    """Nothing handed in is changed, and what is told is the asker's own."""

    def tellers(self):
        return [
            ("table", table, [(1, (1, 3)), (None, (1, 3)), (1, (1, 3))]),
            ("table in order", table, list(HALVES)),
            ("table, empty", table, []),
            ("scaled", scaled, [(0, (1, 6)), (5, (1, 3))]),
            ("scaled, of one", scaled, list(HALVES)),
            ("mixed", mixed, [((1, 1), list(HALVES)), ((0, 1), [])]),
            ("mixed, empty", mixed, []),
            ("without", lambda pairs: without(pairs, 1), list(THIRDS)),
            ("without nothing", lambda pairs: without(pairs, 9), list(THIRDS)),
            ("without, empty", lambda pairs: without(pairs, 9), []),
            ("turned", lambda pairs: turned(pairs, lambda outcome: outcome), list(THIRDS)),
            ("turned, empty", lambda pairs: turned(pairs, lambda outcome: outcome), []),
            ("total", total, list(THIRDS)),
            ("share_of", lambda pairs: share_of(pairs, 1), list(THIRDS)),
        ]

    def test_what_is_handed_in_stays(self):
        for name, how, handed in self.tellers():
            with self.subTest(name):
                before = repr(handed)
                how(handed)
                self.assertEqual(repr(handed), before)

    def test_a_refused_table_stays(self):
        handed = []
        with self.assertRaises(Never):
            scaled(handed)
        self.assertEqual(handed, [])

    def test_told_lists_are_new(self):
        for name, how, handed in self.tellers():
            told = how(handed)
            if isinstance(told, list):
                with self.subTest(name):
                    self.assertIsNot(told, handed)
                    self.assertIsNot(how(handed), told)

    def test_a_told_list_that_is_changed_changes_no_later_answer(self):
        for name, how, handed in self.tellers():
            told = how(handed)
            if isinstance(told, list):
                with self.subTest(name):
                    wanted = list(told)
                    before = repr(handed)
                    told.append((77, (1, 1)))
                    told[0] = (78, (1, 1))
                    self.assertEqual(repr(handed), before)
                    self.assertEqual(how(handed), wanted)

    def test_a_handed_list_that_is_changed_later_changes_nothing(self):
        for name, how, handed in self.tellers():
            with self.subTest(name):
                told = how(handed)
                wanted = repr(told)
                for part in handed:
                    if isinstance(part[1], list):
                        part[1].clear()
                handed.clear()
                self.assertEqual(repr(told), wanted)

    def test_the_shares_of_a_draw(self):
        self.assertEqual(draw_shares([(0, 2), (1, 1)]), [(2, 3), (1, 3)])
        self.assertEqual(draw_shares([(9, 3), (4, 2), (6, 1)]), [(1, 2), (1, 3), (1, 6)])
        self.assertEqual(draw_shares([(5, 7)]), [(1, 1)])

    def test_argument_names(self):
        self.assertEqual(table(pairs=HALVES), HALVES)
        self.assertEqual(total(table=HALVES), (1, 1))
        self.assertEqual(scaled(table=HALVES), HALVES)
        self.assertEqual(mixed(parts=[((1, 1), HALVES)]), HALVES)
        self.assertEqual(without(table=HALVES, outcome=0), [(1, (1, 2))])
        self.assertEqual(turned(table=HALVES, how=lambda outcome: outcome), HALVES)
        self.assertEqual(share_of(table=HALVES, outcome=0), (1, 2))


if __name__ == "__main__":
    unittest.main()
