"""What a term tells, and a run: promises 12 and 13."""

import unittest
from itertools import product

from flipwright.errors import TooMuch
from flipwright.opening import Opened, opened
from flipwright.running import Hand, Listed, counted, figured, run, told
from making import A1, AB, HALF, THREE, bind, draw, made_programs, num, op, opened_text, slot

GREATEST = 10 ** 12 - 1
A2 = (("a", 2),)


class Watcher(Hand):
    """Tells the last outcome always, and keeps with what it was asked."""

    def __init__(self):
        Hand.__init__(self)
        self.asked = []

    def take(self, site, draw):
        self.asked.append((site, list(draw)))
        return len(draw) - 1


class TestCounted(unittest.TestCase):
    def test_numbers_count_as_themselves(self):
        for number in (0, 1, 77, GREATEST):
            self.assertEqual(counted(number), number)

    def test_records_and_none_count_nothing(self):
        for outcome in (None, A1, AB, (("z", 0),)):
            self.assertEqual(counted(outcome), 0)


class TestFigured(unittest.TestCase):
    def figured_op(self, sign, one, other):
        return figured(op(sign, num(0), num(0)), [one, other])

    def test_ops_of_numbers(self):
        for one, other in product((0, 1, 2, 5, 10 ** 6, GREATEST - 1, GREATEST), repeat=2):
            self.assertEqual(self.figured_op("+", one, other), (one + other) % 10 ** 12)
            self.assertEqual(self.figured_op("-", one, other), (one - other) % 10 ** 12)
            self.assertEqual(self.figured_op("*", one, other), (one * other) % 10 ** 12)
            self.assertEqual(self.figured_op("=", one, other), 1 if one == other else 0)
            self.assertEqual(self.figured_op("<", one, other), 1 if one < other else 0)

    def test_beyond_the_numbers(self):
        self.assertEqual(self.figured_op("+", GREATEST, 1), 0)
        self.assertEqual(self.figured_op("+", GREATEST, GREATEST), GREATEST - 1)
        self.assertEqual(self.figured_op("-", 0, 1), GREATEST)
        self.assertEqual(self.figured_op("-", 3, 5), 10 ** 12 - 2)
        self.assertEqual(self.figured_op("*", 10 ** 6, 10 ** 6), 0)
        self.assertEqual(self.figured_op("*", 10 ** 6, 10 ** 6 + 1), 10 ** 6)
        self.assertEqual(self.figured_op("*", GREATEST, GREATEST), 1)
        self.assertEqual(self.figured_op("*", GREATEST, 2), GREATEST - 1)

    def test_ops_of_records(self):
        self.assertEqual(self.figured_op("+", A1, 5), 5)
        self.assertEqual(self.figured_op("+", 5, A1), 5)
        self.assertEqual(self.figured_op("+", A1, AB), 0)
        self.assertEqual(self.figured_op("-", A1, 5), 10 ** 12 - 5)
        self.assertEqual(self.figured_op("-", 5, A1), 5)
        self.assertEqual(self.figured_op("*", A1, 5), 0)
        self.assertEqual(self.figured_op("<", A1, 5), 1)
        self.assertEqual(self.figured_op("<", A1, 0), 0)
        self.assertEqual(self.figured_op("<", 0, A1), 0)
        self.assertEqual(self.figured_op("<", A1, A2), 0)

    def test_the_same_value(self):
        self.assertEqual(self.figured_op("=", A1, (("a", 1),)), 1)
        self.assertEqual(self.figured_op("=", AB, (("a", 1), ("b", 5))), 1)
        self.assertEqual(self.figured_op("=", A1, A2), 0)
        self.assertEqual(self.figured_op("=", A1, AB), 0)
        self.assertEqual(self.figured_op("=", A1, (("b", 1),)), 0)
        self.assertEqual(self.figured_op("=", A1, 0), 0)
        self.assertEqual(self.figured_op("=", 1, A1), 0)
        self.assertEqual(self.figured_op("=", (("a", 0),), 0), 0)

    def test_truths_are_whole_numbers(self):
        for sign in "=<":
            for one, other in ((1, 1), (1, 2), (A1, A1), (A1, A2)):
                self.assertIs(type(self.figured_op(sign, one, other)), int)

    def test_rests(self):
        for number, by, wanted in ((7, 3, 1), (6, 3, 0), (2, 3, 2), (5, 1, 0), (GREATEST, GREATEST, 0), (A1, 3, 0),
                                   (GREATEST, 2, 1), (0, 9, 0)):
            self.assertEqual(figured(("rest", num(0), by), [number]), wanted)

    def test_records(self):
        term = ("record", (("b", num(0)), ("a", num(0)), ("ab", num(0))))
        self.assertEqual(figured(term, [1, 2, 3]), (("a", 2), ("ab", 3), ("b", 1)))
        self.assertEqual(figured(term, [A1, 2, AB]), (("a", 2), ("ab", 0), ("b", 0)))
        self.assertEqual(figured(("record", (("a", num(0)),)), [9]), (("a", 9),))
        six = figured(("record", tuple((name, num(0)) for name in "fedcba")), [6, 5, 4, 3, 2, 1])
        self.assertEqual(six, (("a", 1), ("b", 2), ("c", 3), ("d", 4), ("e", 5), ("f", 6)))

    def test_fields(self):
        for value, name, wanted in ((A1, "a", 1), (AB, "b", 5), (AB, "a", 1), (A1, "b", 0), (AB, "ab", 0), (7, "a", 0),
                                    (0, "a", 0), ((("a", 0),), "a", 0)):
            self.assertEqual(figured(("field", num(0), name), [value]), wanted)

    def test_the_values_stay(self):
        values = [1, A1]
        for term in (op("+", num(0), num(0)), ("record", (("b", num(0)), ("a", num(0))))):
            figured(term, values)
        self.assertEqual(values, [1, A1])

    def test_opened_or_not(self):
        self.assertEqual(figured(("rest", draw(5), 3), [7]), 1)
        self.assertEqual(figured(("field", ("name", "x"), "a"), [A1]), 1)


class TestTold(unittest.TestCase):
    def assert_told(self, term, wanted, taken=(), held=None, choices=(), draws=()):
        hand = Listed(list(choices))
        self.assertEqual(told(term, held or {}, list(draws), hand), wanted)
        self.assertEqual(hand.taken, list(taken))

    def test_nums_and_slots(self):
        self.assert_told(num(5), 5)
        self.assert_told(slot(3), 7, held={3: 7, 4: 8})
        self.assert_told(slot(4), AB, held={3: 7, 4: AB})

    def test_draws(self):
        for index, number in enumerate((7, 8, 9)):
            self.assert_told(draw(1), number, [(1, index)], choices=[0, index], draws=[HALF, THREE])

    def test_each_op_in_a_term(self):
        for sign, wanted in (("+", 8), ("-", 10 ** 12 - 2), ("*", 15), ("=", 0), ("<", 1)):
            self.assert_told(op(sign, num(3), num(5)), wanted)
        self.assert_told(op("-", num(5), num(3)), 2)

    def test_terms_within_terms(self):
        self.assert_told(op("*", op("+", num(1), num(2)), op("-", num(9), num(4))), 15)
        self.assert_told(("rest", op("*", num(7), num(8)), 10), 6)
        self.assert_told(("field", ("record", (("b", num(2)), ("a", op("+", num(3), num(4))))), "a"), 7)
        self.assert_told(("record", (("b", ("record", (("c", num(1)),))), ("a", num(4)))), (("a", 4), ("b", 0)))
        self.assert_told(("field", ("field", ("record", (("a", num(1)),)), "a"), "a"), 0)

    def test_parts_are_gone_through_from_the_left(self):
        draws = [HALF] * 3
        self.assert_told(op("-", draw(0), draw(1)), 1, [(0, 1), (1, 0)], choices=[1, 0], draws=draws)
        self.assert_told(("record", (("b", draw(0)), ("a", draw(1)), ("c", draw(2)))), (("a", 0), ("b", 1), ("c", 1)),
                         [(0, 1), (1, 0), (2, 1)], choices=[1, 0, 1], draws=draws)
        self.assert_told(op("*", draw(2), op("+", draw(0), draw(1))), 1, [(2, 1), (0, 0), (1, 1)],
                         choices=[0, 1, 1], draws=draws)

    def test_an_if_goes_one_way(self):
        term = ("if", draw(0), draw(1), draw(2))
        draws = [HALF, THREE, THREE]
        self.assert_told(term, 8, [(0, 1), (1, 1)], choices=[1, 1, 2], draws=draws)
        self.assert_told(term, 9, [(0, 0), (2, 2)], choices=[0, 1, 2], draws=draws)

    def test_what_an_if_asks(self):
        for value, wanted in ((0, 2), (1, 1), (2, 1), (GREATEST, 1), (A1, 2), (AB, 2)):
            self.assert_told(("if", slot(0), num(1), num(2)), wanted, held={0: value})

    def test_an_if_tells_records_too(self):
        self.assert_told(("if", num(1), slot(0), num(2)), AB, held={0: AB})

    def test_the_other_way_of_an_if_may_be_anything(self):
        self.assert_told(("if", num(1), num(5), slot(99)), 5)
        self.assert_told(("if", num(0), slot(99), num(5)), 5)

    def test_binds(self):
        self.assert_told(bind(4, num(3), op("*", slot(4), slot(4))), 9)
        self.assert_told(bind(4, num(3), num(1)), 1)
        self.assert_told(bind(0, num(1), bind(1, num(2), op("-", slot(1), slot(0)))), 1)
        self.assert_told(bind(1, bind(0, num(5), op("+", slot(0), num(1))), op("*", slot(1), num(2))), 12)
        self.assert_told(bind(1, slot(0), slot(1)), A1, held={0: A1})

    def test_a_bound_draw_is_asked_once(self):
        self.assert_told(bind(0, draw(0), op("+", slot(0), op("*", slot(0), slot(0)))), 72, [(0, 1)],
                         choices=[1], draws=[THREE])
        self.assert_told(bind(0, draw(0), num(5)), 5, [(0, 2)], choices=[2], draws=[THREE])
        self.assert_told(bind(0, draw(0), draw(1)), 7, [(0, 2), (1, 0)], choices=[2, 0], draws=[THREE, THREE])

    def test_binds_of_one_slot(self):
        self.assert_told(bind(2, num(1), op("+", bind(2, num(10), slot(2)), slot(2))), 11)
        self.assert_told(op("+", bind(2, num(1), slot(2)), bind(2, num(10), slot(2))), 11)
        self.assert_told(bind(2, num(3), bind(2, op("+", slot(2), num(1)), slot(2))), 4)

    def test_what_is_handed_in_stays(self):
        held = {0: 5}
        draws = [list(HALF), list(THREE)]
        term = bind(1, draw(0), bind(0, draw(1), op("+", slot(0), slot(1))))
        self.assertEqual(told(term, held, draws, Listed([1, 2])), 10)
        self.assertEqual(held, {0: 5})
        self.assertEqual(draws, [HALF, THREE])

    def test_deep_terms(self):
        term = num(0)
        for each in range(30):
            term = op("+", term, num(1))
        self.assert_told(term, 30)
        term = slot(100)
        for each in range(100):
            term = bind(each, num(each), term)
        self.assert_told(term, 8, held={100: 8})

    def test_the_list_that_a_hand_is_asked_with_is_its_own(self):
        class Spoiler(Hand):
            def take(self, site, draw):
                draw.clear()
                return 1

        draws = [list(THREE)]
        self.assertEqual(told(op("+", draw(0), num(1)), {}, draws, Spoiler()), 9)
        self.assertEqual(draws, [THREE])


class TestHands(unittest.TestCase):
    def test_the_plain_hand(self):
        hand = Hand()
        self.assertEqual(hand.taken, [])
        self.assertEqual(hand.take(4, THREE), 0)
        self.assertEqual(hand.take(2, HALF), 0)
        self.assertEqual(hand.taken, [(4, 0), (2, 0)])

    def test_a_listed_hand(self):
        hand = Listed([1, 0, 2])
        self.assertIsInstance(hand, Hand)
        self.assertEqual(hand.taken, [])
        self.assertEqual(hand.take(2, THREE), 2)
        self.assertEqual(hand.take(0, HALF), 1)
        self.assertEqual(hand.take(1, HALF), 0)
        self.assertEqual(hand.taken, [(2, 2), (0, 1), (1, 0)])

    def test_each_hand_keeps_its_own(self):
        one, other = Hand(), Hand()
        one.take(0, HALF)
        self.assertEqual(other.taken, [])
        first, second = Listed([1]), Listed([0])
        first.take(0, HALF)
        self.assertEqual(second.taken, [])

    def test_the_list_of_a_listed_hand_is_a_copy(self):
        choices = [1, 1]
        hand = Listed(choices)
        choices[1] = 0
        choices.clear()
        self.assertEqual(hand.take(1, HALF), 1)
        choices = [1, 0]
        run(opened_text("ask flip(1/2) + flip(1/2)"), Listed(choices))
        self.assertEqual(choices, [1, 0])

    def test_the_draw_stays(self):
        handed = list(THREE)
        Hand().take(0, handed)
        Listed([2]).take(0, handed)
        self.assertEqual(handed, THREE)

    def test_argument_names(self):
        self.assertEqual(Listed(choices=[1]).take(site=0, draw=HALF), 1)
        self.assertEqual(Hand().take(site=0, draw=HALF), 0)
        self.assertEqual(told(term=num(1), held={}, draws=[], hand=Hand()), 1)
        self.assertEqual(run(one=opened_text("ask 1"), hand=Hand()), 1)
        self.assertEqual(figured(term=("rest", num(0), 2), values=[3]), 1)
        self.assertEqual(counted(outcome=None), 0)


class TestRun(unittest.TestCase):
    def assert_run(self, one, choices, wanted, taken):
        hand = Listed(choices)
        self.assertEqual(run(one, hand), wanted)
        self.assertEqual(hand.taken, taken)

    def test_steps_in_order(self):
        one = opened_text("let x = pick(3:1, 5:1)", "let y = flip(1/2)", "again 2 x = x + flip(1/2)", "ask x * 10 + y")
        self.assert_run(one, [1, 1, 0, 1], 61, [(0, 1), (1, 1), (2, 0), (3, 1)])
        self.assert_run(one, [0, 0, 0, 0], 30, [(0, 0), (1, 0), (2, 0), (3, 0)])

    def test_the_plain_hand(self):
        hand = Hand()
        one = opened_text("let x = flip(1/2)", "ask {a: pick(6:1, 7:9), b: x}")
        self.assertEqual(run(one, hand), (("a", 6), ("b", 0)))
        self.assertEqual(hand.taken, [(0, 0), (1, 0)])

    def test_a_see_that_counts_nothing(self):
        one = opened_text("let x = flip(1/2)", "see x", "let y = flip(1/2)", "see y", "ask flip(1/2)")
        self.assert_run(one, [0, 1, 1], None, [(0, 0)])
        self.assert_run(one, [1, 0, 1], None, [(0, 1), (1, 0)])
        self.assert_run(one, [1, 1, 0], 0, [(0, 1), (1, 1), (2, 0)])
        self.assert_run(one, [1, 1, 1], 1, [(0, 1), (1, 1), (2, 1)])

    def test_what_a_see_asks(self):
        for text, wanted in (("0", None), ("1", 9), ("2", 9), ("999999999999", 9), ("{a: 1}", None), ("1 - 1", None),
                             ("{a: 1}.a", 9), ("{a: 1} = {a: 1}", 9)):
            self.assertEqual(run(opened_text("see " + text, "ask 9"), Hand()), wanted)

    def test_an_ask_that_counts_nothing(self):
        self.assertEqual(run(opened_text("see 1", "ask 0"), Hand()), 0)
        self.assertEqual(run(opened_text("ask {a: 1}"), Hand()), (("a", 1),))

    def test_draws_that_no_step_comes_to(self):
        one = opened_text("ask if(flip(1/2), flip(1/2) + flip(1/2), flip(1/2))")
        self.assert_run(one, [1, 0, 1, 0], 1, [(0, 1), (1, 0), (2, 1)])
        self.assert_run(one, [0, 0, 0, 1], 1, [(0, 0), (3, 1)])

    def test_with_which_draw_a_hand_is_asked(self):
        hand = Watcher()
        self.assertEqual(run(opened_text("def f(a) = a + flip(2/5)", "ask f(pick(4:3, 2:1)) * flip(1/2)"), hand), 3)
        self.assertEqual(hand.asked, [(0, [(4, 3), (2, 1)]), (1, [(0, 3), (1, 2)]), (2, [(0, 1), (1, 1)])])

    def test_calls(self):
        one = opened_text("def twice(a) = a + a", "def f(a, b) = twice(b) - a", "ask f(flip(1/2), pick(1:1, 2:1, 3:1))")
        self.assert_run(one, [1, 2], 5, [(0, 1), (1, 2)])

    def test_an_argument_that_the_helper_does_not_read(self):
        self.assert_run(opened_text("def f(a) = 1", "ask f(flip(1/2))"), [1], 1, [(0, 1)])

    def test_steps_that_no_text_opens_to(self):
        one = Opened([(2, draw(1)), (-1, op("<", slot(2), num(9))), (5, bind(3, slot(2), op("+", slot(3), slot(2)))),
                      (8, slot(5))], [HALF, THREE, HALF], 9)
        self.assert_run(one, [0, 1, 0], 16, [(1, 1)])
        self.assert_run(one, [0, 2, 0], None, [(1, 2)])

    def test_the_program_stays(self):
        one = opened_text("def f(a) = a + flip(1/2)", "let x = f(1)", "see x", "ask f(x)")
        before = repr((one.steps, one.draws, one.slots))
        self.assertEqual(run(one, Listed([1, 1])), 3)
        self.assertEqual(run(one, Listed([1, 1])), 3)
        self.assertEqual(repr((one.steps, one.draws, one.slots)), before)

    def test_a_hand_goes_on_keeping(self):
        hand = Hand()
        one = opened_text("ask flip(1/2)")
        run(one, hand)
        run(one, hand)
        self.assertEqual(hand.taken, [(0, 0), (0, 0)])

    def test_deep_calls_of_deep_calls(self):
        inner = "f(1,2," * 7 + "c" + ")" * 7
        outer = "g(1,2," * 8 + "0" + ")" * 8
        one = opened_text("def f(a,b,c) = c + 1", "def g(a,b,c) = " + inner, "ask " + outer)
        self.assertEqual(run(one, Hand()), 56)


class Sequence:
    """Tells indexes by how many were asked for ahead, whatever the site."""

    def __init__(self, seed):
        self.seed = seed
        self.sites = []
        self.draws = []

    def take(self, site, draw):
        self.sites.append(site)
        self.draws.append(list(draw))
        return self.index(draw)

    def index(self, draw):
        return (len(self.draws) * 7919 + self.seed * 104729) // 3 % len(draw)


class Straight:
    """A run of a program as it is read, without opening it: what the runs of opened programs are held against."""

    def __init__(self, program, sequence):
        self.sequence = sequence
        self.helpers = {row[1]: row for row in program if row[0] == "def"}

    def run(self, program):
        lets = {}
        for row in program:
            if row[0] == "let":
                lets[row[1]] = self.value(row[2], lets)
            elif row[0] == "again":
                for each in range(row[1]):
                    lets[row[2]] = self.value(row[3], lets)
            elif row[0] == "see" and self.count(row[1], lets) == 0:
                return None
            elif row[0] == "ask":
                return self.value(row[1], lets)

    def count(self, term, names):
        value = self.value(term, names)
        return 0 if isinstance(value, tuple) else value

    def value(self, term, names):
        return getattr(self, "value_of_" + term[0])(names, *term[1:])

    def value_of_num(self, names, number):
        return number

    def value_of_name(self, names, name):
        return names[name]

    def value_of_flip(self, names, top, bottom):
        return self.value_of_pick(names, ((0, bottom - top), (1, top)))

    def value_of_pick(self, names, outcomes):
        return outcomes[self.sequence.take(None, outcomes)][0]

    def value_of_if(self, names, test, one, other):
        return self.value(one, names) if self.count(test, names) else self.value(other, names)

    def value_of_op(self, names, sign, one, other):
        if sign == "=":
            return int(self.value(one, names) == self.value(other, names))
        first, second = self.count(one, names), self.count(other, names)
        every = {"+": first + second, "-": first - second, "*": first * second, "<": int(first < second)}
        return every[sign] % 10 ** 12

    def value_of_rest(self, names, term, number):
        return self.count(term, names) % number

    def value_of_record(self, names, fields):
        counts = {name: self.count(term, names) for name, term in fields}
        return tuple(sorted(counts.items()))

    def value_of_field(self, names, term, name):
        value = self.value(term, names)
        return dict(value).get(name, 0) if isinstance(value, tuple) else 0

    def value_of_call(self, names, name, terms):
        values = [self.value(term, names) for term in terms]
        return self.value(self.helpers[name][3], dict(zip(self.helpers[name][2], values)))


class TestAgainstStraightRuns(unittest.TestCase):
    def test_made_programs(self):
        outcomes = set()
        for program in made_programs(600, 3):
            try:
                one = opened(program)
            except TooMuch:
                continue
            for seed in range(5):
                hand, sequence = Sequence(seed), Sequence(seed)
                outcome = run(one, hand)
                self.assertEqual(outcome, Straight(program, sequence).run(program), program)
                self.assertEqual(hand.draws, sequence.draws)
                self.assertEqual(hand.draws, [one.draws[site] for site in hand.sites])
                self.assertEqual(hand.sites, sorted(set(hand.sites)))
                outcomes.add(outcome)
        self.assertGreater(len(outcomes), 30)


if __name__ == "__main__":
    unittest.main()
