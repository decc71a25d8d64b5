"""Opened programs and their bounds: promises 11 and 14."""

import unittest

from flipwright.errors import NoName, TooMuch
from flipwright.opening import Opened, bound, bound_of, opened, parts_of, size
from flipwright.reader import read
from making import HALF, bind, draw, made_programs, num, op, opened_text, slot

A, B, C = [("name", letter) for letter in "abc"]


class OpeningCase(unittest.TestCase):
    def assert_opened(self, rows, steps, draws, slots):
        one = opened_text(*rows)
        self.assertEqual(one.steps, steps)
        self.assertEqual(one.draws, draws)
        self.assertEqual(one.slots, slots)

    def assert_no_name(self, row, *rows):
        with self.subTest(rows):
            with self.assertRaises(NoName) as taken:
                opened_text(*rows)
            self.assertEqual(taken.exception.row, row)

    def assert_too_much(self, *rows):
        with self.assertRaises(TooMuch):
            opened_text(*rows)


class TestSteps(OpeningCase):
    def test_an_ask(self):
        self.assert_opened(["ask 7"], [(0, num(7))], [], 1)
        self.assert_opened(["ask flip(1/3)"], [(0, draw(0))], [[(0, 2), (1, 1)]], 1)

    def test_lets(self):
        self.assert_opened(["let x = 1", "let y = x", "ask x + y"],
                           [(0, num(1)), (1, slot(0)), (2, op("+", slot(0), slot(1)))], [], 3)

    def test_a_let_of_the_same_name(self):
        self.assert_opened(["let x = 1", "let x = x + x", "let x = 2 - x", "ask x"],
                           [(0, num(1)), (1, op("+", slot(0), slot(0))), (2, op("-", num(2), slot(1))), (3, slot(2))],
                           [], 4)

    def test_sees(self):
        self.assert_opened(["see 1", "let x = 2", "see x", "ask x"],
                           [(-1, num(1)), (0, num(2)), (-1, slot(0)), (1, slot(0))], [], 2)

    def test_agains(self):
        self.assert_opened(["let x = 5", "again 0 x = x + 1", "ask x"], [(0, num(5)), (1, slot(0))], [], 2)
        self.assert_opened(["let x = 5", "again 1 x = x + 1", "ask x"],
                           [(0, num(5)), (1, op("+", slot(0), num(1))), (2, slot(1))], [], 3)
        self.assert_opened(["let x = 5", "again 3 x = x * flip(1/2)", "ask x"],
                           [(0, num(5)), (1, op("*", slot(0), draw(0))), (2, op("*", slot(1), draw(1))),
                            (3, op("*", slot(2), draw(2))), (4, slot(3))], [HALF, HALF, HALF], 5)

    def test_an_again_of_thirty_rounds(self):
        one = opened_text("let x = 0", "let y = 1", "again 30 x = x + y", "ask x")
        self.assertEqual(one.steps[2], (2, op("+", slot(0), slot(1))))
        self.assertEqual(one.steps[3:32], [(number, op("+", slot(number - 1), slot(1))) for number in range(3, 32)])
        self.assertEqual(one.steps[32:], [(32, slot(31))])
        self.assertEqual(one.slots, 33)

    def test_each_kind_of_term(self):
        self.assert_opened(
            ["let x = 3", "let y = if(x, rest(x, 2), {b: x, a: 4}.a)", "ask pick(7:2, 5:9)"],
            [(0, num(3)),
             (1, ("if", slot(0), ("rest", slot(0), 2),
                  ("field", ("record", (("b", slot(0)), ("a", num(4)))), "a"))),
             (2, draw(0))],
            [[(7, 2), (5, 9)]], 3)

    def test_ops(self):
        for sign in "+-*=<":
            self.assert_opened([f"ask 1 {sign} 2"], [(0, op(sign, num(1), num(2)))], [], 1)

    def test_draws_are_numbered_from_the_left(self):
        self.assert_opened(
            ["let x = if(flip(1/2), flip(1/3), flip(1/4))", "see flip(1/5) < rest(flip(1/6), 2)",
             "ask {b: flip(1/7), a: flip(1/8).a}"],
            [(0, ("if", draw(0), draw(1), draw(2))), (-1, op("<", draw(3), ("rest", draw(4), 2))),
             (1, ("record", (("b", draw(5)), ("a", ("field", draw(6), "a")))))],
            [[(0, number - 1), (1, 1)] for number in range(2, 9)], 2)

    def test_draws_of_flips_and_picks(self):
        self.assert_opened(["ask flip(3/5) + pick(4:1, 2:7, 9:3) + flip(999999/1000000)"],
                           [(0, op("+", op("+", draw(0), draw(1)), draw(2)))],
                           [[(0, 2), (1, 3)], [(4, 1), (2, 7), (9, 3)], [(0, 1), (1, 999999)]], 1)


class TestCalls(OpeningCase):
    def test_defs_make_no_step(self):
        self.assert_opened(["def f() = flip(1/2)", "ask 1"], [(0, num(1))], [], 1)

    def test_without_terms(self):
        self.assert_opened(["def f() = flip(1/2)", "ask f() + f()"],
                           [(0, op("+", draw(0), draw(1)))], [HALF, HALF], 1)

    def test_with_one_to_three_terms(self):
        self.assert_opened(["def f(a) = a * a", "ask f(7)"],
                           [(1, bind(0, num(7), op("*", slot(0), slot(0))))], [], 2)
        self.assert_opened(["def f(a, b) = b - a", "ask f(7, 8)"],
                           [(2, bind(0, num(7), bind(1, num(8), op("-", slot(1), slot(0)))))], [], 3)
        self.assert_opened(["def f(a, b, c) = if(a, b, c)", "ask f(7, 8, 9)"],
                           [(3, bind(0, num(7), bind(1, num(8), bind(2, num(9), ("if", slot(0), slot(1), slot(2))))))],
                           [], 4)

    def test_terms_that_the_helper_does_not_read(self):
        self.assert_opened(["def f(a, b) = 1", "ask f(flip(1/2), 2)"],
                           [(2, bind(0, draw(0), bind(1, num(2), num(1))))], [HALF], 3)

    def test_draws_of_the_terms_come_ahead_of_the_helpers(self):
        self.assert_opened(
            ["def f(a, b) = flip(1/5) + b", "ask flip(1/2) + f(flip(1/3), flip(1/4)) + flip(1/6)"],
            [(2, op("+", op("+", draw(0), bind(0, draw(1), bind(1, draw(2), op("+", draw(3), slot(1))))), draw(4)))],
            [[(0, number - 1), (1, 1)] for number in (2, 3, 4, 5, 6)], 3)

    def test_names_of_lets_and_of_helpers_are_apart(self):
        self.assert_opened(["let f = 1", "def f(f) = f", "let x = f(f)", "ask f(x)"],
                           [(0, num(1)), (2, bind(1, slot(0), slot(1))), (4, bind(3, slot(2), slot(3)))], [], 5)

    def test_names_of_helpers_hide_lets_in_the_helper_alone(self):
        self.assert_opened(["let a = 1", "def f(b, a) = a - b", "ask f(a, a + 1) + a"],
                           [(0, num(1)),
                            (3, op("+", bind(1, slot(0), bind(2, op("+", slot(0), num(1)), op("-", slot(2), slot(1)))),
                                   slot(0)))], [], 4)

    def test_a_call_within_the_term_of_a_call(self):
        self.assert_opened(
            ["def f(a) = a + 1", "ask f(f(5))"],
            [(2, bind(1, bind(0, num(5), op("+", slot(0), num(1))), op("+", slot(1), num(1))))], [], 3)
        self.assert_opened(
            ["def f(a, b) = a", "ask f(f(1, 2), f(3, 4))"],
            [(6, bind(2, bind(0, num(1), bind(1, num(2), slot(0))),
                      bind(5, bind(3, num(3), bind(4, num(4), slot(3))), slot(2))))], [], 7)

    def test_a_call_within_a_helper(self):
        self.assert_opened(
            ["def f(a) = a * flip(1/2)", "def g(a, b) = f(b) - f(a)", "ask g(8, 9)"],
            [(4, bind(0, num(8), bind(1, num(9), op(
                "-", bind(2, slot(1), op("*", slot(2), draw(0))), bind(3, slot(0), op("*", slot(3), draw(1)))))))],
            [HALF, HALF], 5)

    def test_three_helpers(self):
        self.assert_opened(["def f() = flip(1/2)", "def g(a) = f()", "def h() = g(f())", "ask h()"],
                           [(1, bind(0, draw(0), draw(1)))], [HALF, HALF], 2)

    def test_calls_in_agains_and_sees(self):
        self.assert_opened(
            ["def f(a) = a", "let x = 1", "again 2 x = f(x)", "see f(x)", "ask x"],
            [(0, num(1)), (2, bind(1, slot(0), slot(1))), (4, bind(3, slot(2), slot(3))),
             (-1, bind(5, slot(4), slot(5))), (6, slot(4))], [], 7)

    def test_a_def_between_the_rows(self):
        self.assert_opened(["let x = 1", "def f() = 2", "ask f() + x"],
                           [(0, num(1)), (1, op("+", num(2), slot(0)))], [], 2)


class TestNoName(OpeningCase):
    def test_a_name_that_no_let_above_tells(self):
        self.assert_no_name(0, "ask x")
        self.assert_no_name(0, "let x = x", "ask x")
        self.assert_no_name(1, "let y = 1", "see x", "let x = 1", "ask x")
        self.assert_no_name(0, "ask 1 + x")
        self.assert_no_name(1, "let y = 1", "ask if(y, y, rest({a: x}.a, 2))")
        self.assert_no_name(1, "let y = 1", "again 2 y = x", "ask y")
        self.assert_no_name(1, "def x() = 1", "ask x")

    def test_a_name_at_each_place(self):
        for text in ("x", "if(x, 1, 1)", "if(1, x, 1)", "if(1, 1, x)", "x + 1", "1 + x", "rest(x, 1)", "{a: 1, b: x}",
                     "x.a", "f(x, 1)", "f(1, x)", "f(1, f(1, x))"):
            self.assert_no_name(1, "def f(a, b) = 1", "ask " + text)

    def test_a_name_in_a_def_that_is_not_its_own(self):
        self.assert_no_name(0, "def f() = x", "ask 1")
        self.assert_no_name(0, "def f(a) = a + b", "ask 1")
        self.assert_no_name(1, "let x = 1", "def f(a) = x", "ask 1")
        self.assert_no_name(1, "def f(a) = a", "def g(b) = a", "ask 1")
        self.assert_no_name(1, "def f(a) = a", "ask a")

    def test_an_again_whose_name_no_let_above_tells(self):
        self.assert_no_name(0, "again 1 x = 1", "ask 1")
        self.assert_no_name(0, "again 0 x = 1", "ask 1")
        self.assert_no_name(1, "let y = 1", "again 3 x = y", "let x = 1", "ask 1")
        self.assert_no_name(1, "def x(x) = 1", "again 3 x = 1", "ask 1")

    def test_an_again_of_no_rounds(self):
        self.assert_no_name(1, "let x = 1", "again 0 x = y", "ask x")
        self.assert_no_name(1, "let x = 1", "again 0 x = f()", "ask x")
        self.assert_no_name(2, "let x = 1", "def f(a) = a", "again 0 x = f()", "ask x")

    def test_a_call_that_no_def_above_tells(self):
        self.assert_no_name(0, "ask f()")
        self.assert_no_name(0, "let x = f(1)", "def f(a) = a", "ask x")
        self.assert_no_name(1, "let f = 1", "ask f()")
        self.assert_no_name(0, "def f() = f()", "ask 1")
        self.assert_no_name(0, "def f() = g()", "def g() = 1", "ask 1")
        self.assert_no_name(0, "def f(g) = g()", "ask 1")
        self.assert_no_name(1, "def f(a) = 1", "ask f(g())")

    def test_a_call_with_another_number_of_terms(self):
        for many in range(4):
            names = ", ".join("abc"[:many])
            for other in range(4):
                terms = ", ".join(["1"] * other)
                if many == other:
                    opened_text(f"def f({names}) = 1", f"ask f({terms})")
                else:
                    self.assert_no_name(1, f"def f({names}) = 1", f"ask f({terms})")
                    self.assert_no_name(1, f"def f({names}) = 1", f"def g() = f({terms})", "ask 1")

    def test_a_def_of_a_helper_told_above(self):
        self.assert_no_name(1, "def f() = 1", "def f() = 1", "ask 1")
        self.assert_no_name(2, "def f() = 1", "let x = 1", "def f(a) = a", "ask 1")
        opened_text("let f = 1", "def f() = 1", "let f = 2", "ask f")

    def test_the_first_of_several(self):
        self.assert_no_name(1, "let x = 1", "see y", "again 2 z = f()", "def f() = g()", "ask y")
        self.assert_no_name(0, "def f() = y", "def f() = 1", "ask y")
        self.assert_no_name(2, "let x = 1", "def f(a) = a", "again 0 z = x", "ask f()")
        self.assert_no_name(3, "def f() = 1", "def g() = 1", "let x = f()", "def g() = 1", "see y", "ask f(1)")

    def test_handed_in_as_a_list(self):
        with self.assertRaises(NoName) as taken:
            opened([("let", "x", num(1)), ("ask", ("name", "y"))])
        self.assertEqual(taken.exception.row, 1)


class TestTooMuch(OpeningCase):
    DEFS = ["def a() = 1", "def b() = 1", "def c() = 1", "def d() = 1"]
    WIDE = "*".join(["{}()"] * 3) + "+" + "*".join(["{}()"] * 3) + "+" + "*".join(["{}()"] * 3)

    def test_three_and_four_defs(self):
        opened_text(*self.DEFS[:3], "ask 1")
        self.assert_too_much(*self.DEFS, "ask 1")

    def test_sixty_and_sixty_one_draws(self):
        thirty = "again 30 x = flip(1/2)"
        one = opened_text("let x = 1", thirty, thirty, "ask x")
        self.assertEqual(len(one.draws), 60)
        self.assert_too_much("let x = 1", thirty, thirty, "ask flip(1/2)")
        self.assert_too_much("let x = pick(1:1)", thirty, thirty, "ask x")
        self.assert_too_much("let x = 1", thirty, thirty, "see flip(1/2)", "ask 1")
        one = opened_text("def f() = flip(1/2) + flip(1/2)", "let x = 1", "again 30 x = f()", "ask x")
        self.assertEqual(len(one.draws), 60)
        self.assert_too_much("def f() = flip(1/2) + flip(1/2)", "let x = 1", "again 30 x = f()", "ask pick(1:1)")

    def test_draws_that_stand_in_no_step(self):
        rows = ["def f() = flip(1/2) + flip(1/2) + flip(1/2) + flip(1/2)"] + ["let x = 1"] + ["again 0 x = f()"] * 20
        self.assertEqual(opened_text(*rows, "ask x").draws, [])

    def test_sizes_of_600_and_601(self):
        rows = ["let x = 0"] + ["again 30 x = x + 1"] * 6 + ["again 19 x = x + 1"]
        one = opened_text(*rows, "ask rest(x, 2)")
        self.assertEqual(size(one), 600)
        self.assert_too_much(*rows, "ask x + 1")

    def test_sizes_with_binds(self):
        # Each call makes three: the bind, its term and the helper's.
        rows = ["def f(a) = a", "let x = 0"] + ["again 30 x = f(x)"] * 6 + ["again 19 x = f(x)"]
        self.assertEqual(size(opened_text(*rows, "ask rest(x, 2)")), 600)
        self.assert_too_much(*rows, "ask f(x)")

    def test_many_steps(self):
        self.assert_too_much("let x = 0", *["again 30 x = 1"] * 38, "ask x")
        one = opened_text("let x = 0", *["again 30 x = 1"] * 19, *["let x = 1"] * 18, "ask x")
        self.assertEqual(len(one.steps), 590)

    def test_helpers_that_grow_beyond_all_bounds(self):
        self.assert_too_much("def a() = 1 + 1", "def b() = " + self.WIDE.format(*"a" * 9),
                             "def c() = " + self.WIDE.format(*"b" * 9), "let x = 1",
                             *["again 30 x = " + self.WIDE.format(*"c" * 9)] * 30, "ask x")
        self.assert_too_much("def a() = flip(1/2)", "def b() = " + self.WIDE.format(*"a" * 9),
                             "def c() = " + self.WIDE.format(*"b" * 9), "ask c()")

    def test_no_name_goes_ahead(self):
        self.assert_no_name(4, *self.DEFS, "ask x")
        self.assert_no_name(4, *self.DEFS, "def a() = 1", "ask 1")
        self.assert_no_name(3, "let x = 1", "again 30 x = flip(1/2)", "again 30 x = flip(1/2) + flip(1/2)", "ask y")
        self.assert_no_name(21, "let x = 0", *["again 30 x = x + 1"] * 20, "ask f()")
        self.assert_no_name(5, "def a() = 1 + 1", "def b() = " + self.WIDE.format(*"a" * 9),
                            "def c() = " + self.WIDE.format(*"b" * 9), "let x = 1",
                            "again 30 x = " + self.WIDE.format(*"c" * 9), "ask y")


class TestOpened(OpeningCase):
    def test_fields(self):
        one = Opened([(0, draw(0)), (-1, slot(0)), (3, slot(0))], [HALF], 4)
        self.assertEqual(one.steps, [(0, draw(0)), (-1, slot(0)), (3, slot(0))])
        self.assertEqual(one.draws, [HALF])
        self.assertEqual(one.slots, 4)

    def test_steps_that_no_text_opens_to(self):
        steps = [(4, bind(2, draw(1), bind(2, num(1), slot(2)))), (9, num(5))]
        draws = [[(7, 1)], [(1, 1), (2, 3), (3, 4)], [(0, 1)]]
        one = Opened(steps, draws, 10)
        self.assertEqual((one.steps, one.draws, one.slots), (steps, draws, 10))
        self.assertEqual(size(one), 6)
        self.assertEqual(bound(one), 3)

    def test_its_lists_are_copies(self):
        steps = [(0, draw(0))]
        draws = [[(0, 1), (1, 1)], [(5, 1)]]
        one = Opened(steps, draws, 1)
        steps.append((1, num(1)))
        draws[0].append((2, 1))
        draws[1][0] = (6, 6)
        draws.append([(9, 9)])
        self.assertEqual(one.steps, [(0, draw(0))])
        self.assertEqual(one.draws, [[(0, 1), (1, 1)], [(5, 1)]])

    def test_what_is_handed_in_stays(self):
        steps = [(0, draw(0))]
        draws = [[(0, 1), (1, 1)]]
        one = Opened(steps, draws, 1)
        one.steps.append((1, num(1)))
        one.draws[0].append((2, 1))
        one.draws.append([])
        self.assertEqual(steps, [(0, draw(0))])
        self.assertEqual(draws, [[(0, 1), (1, 1)]])

    def test_the_program_stays_and_nothing_is_shared(self):
        program = read("def f(a) = a + pick(1:1, 2:2)\nlet x = f(1)\nagain 2 x = f(x)\nask x")
        before = list(program)
        one = opened(program)
        self.assertEqual(program, before)
        program.clear()
        one.draws[0].append((5, 5))
        self.assertEqual(one.draws[1], [(1, 1), (2, 2)])
        self.assertEqual(opened(before).draws, [[(1, 1), (2, 2)]] * 3)
        self.assertIs(type(one), Opened)

    def test_steps_and_draws_are_lists_of_tuples(self):
        one = opened_text("let x = flip(1/2)", "see pick(1:1)", "ask {a: x}")
        self.assertIs(type(one.steps), list)
        self.assertIs(type(one.draws), list)
        for step in one.steps:
            self.assertIs(type(step), tuple)
        for each in one.draws:
            self.assertIs(type(each), list)
            for pair in each:
                self.assertIs(type(pair), tuple)

    def test_argument_names(self):
        one = Opened(steps=[(0, draw(0))], draws=[HALF], slots=1)
        self.assertEqual(size(one=one), 1)
        self.assertEqual(bound(one=one), 2)
        self.assertEqual(bound_of(term=draw(0), draws=[HALF]), 2)
        self.assertEqual(parts_of(term=num(1)), [])
        self.assertEqual(opened(program=[("ask", num(1))]).steps, [(0, num(1))])

    def test_made_programs_keep_to_what_is_told(self):
        for program in made_programs(300, 3):
            try:
                one = opened(program)
            except TooMuch:
                continue
            steps = [number for number, term in one.steps if number != -1]
            drawn, bound_slots = [], []
            waiting = [term for number, term in reversed(one.steps)]
            while waiting:
                term = waiting.pop()
                waiting += reversed(parts_of(term))
                if term[0] == "draw":
                    drawn.append(term[1])
                if term[0] == "bind":
                    bound_slots.append(term[1])
            self.assertEqual(drawn, list(range(len(one.draws))))
            self.assertEqual(steps, sorted(steps))
            self.assertEqual(sorted(steps + bound_slots), list(range(one.slots)))
            self.assertEqual(steps[-1], one.slots - 1)


class TestPartsOf(unittest.TestCase):
    def test_terms_without_parts(self):
        for term in (num(1), A, ("flip", 1, 2), ("pick", ((1, 1), (2, 2))), slot(0), draw(0), ("call", "f", ())):
            self.assertEqual(parts_of(term), [])

    def test_terms_with_parts(self):
        self.assertEqual(parts_of(("if", A, B, C)), [A, B, C])
        for sign in "+-*=<":
            self.assertEqual(parts_of(op(sign, A, B)), [A, B])
        self.assertEqual(parts_of(("rest", A, 7)), [A])
        self.assertEqual(parts_of(("record", (("z", A), ("y", B), ("x", A)))), [A, B, A])
        self.assertEqual(parts_of(("field", A, "b")), [A])
        self.assertEqual(parts_of(("call", "f", (A, B, C))), [A, B, C])
        self.assertEqual(parts_of(bind(3, A, B)), [A, B])

    def test_opened_terms(self):
        self.assertEqual(parts_of(("if", slot(1), draw(0), num(2))), [slot(1), draw(0), num(2)])
        self.assertEqual(parts_of(("record", (("a", slot(1)),))), [slot(1)])

    def test_only_the_parts_themselves(self):
        self.assertEqual(parts_of(op("+", op("-", A, B), C)), [op("-", A, B), C])

    def test_each_told_list_is_a_new_one(self):
        for term in (num(1), ("if", A, B, C), op("+", A, B), ("record", (("a", A),)), ("call", "f", (A,)),
                     bind(0, A, B), ("rest", A, 1), ("field", A, "a")):
            first = parts_of(term)
            wanted = list(first)
            self.assertIs(type(first), list)
            first.append(C)
            self.assertEqual(parts_of(term), wanted)


class TestSize(unittest.TestCase):
    def size_of(self, term):
        return size(Opened([(0, term)], [HALF], 1))

    def test_each_kind_of_term(self):
        for term, many in [
            (num(1), 1), (slot(0), 1), (draw(0), 1), (("if", num(1), num(2), num(3)), 4), (op("+", num(1), num(2)), 3),
            (("rest", num(1), 2), 2), (("record", (("a", num(1)), ("b", num(2)))), 3), (("field", num(1), "a"), 2),
            (bind(1, num(1), slot(1)), 3), (bind(1, num(1), bind(2, num(2), op("+", slot(1), slot(2)))), 7),
        ]:
            self.assertEqual(self.size_of(term), many)

    def test_of_programs(self):
        self.assertEqual(size(opened_text("ask 1")), 1)
        self.assertEqual(size(opened_text("let x = 1", "see x", "ask x + 1")), 5)
        self.assertEqual(size(opened_text("def f(a, b) = a + b", "ask f(1, 2)")), 7)
        self.assertEqual(size(opened_text("def f() = 1 + 2", "let x = 1", "again 3 x = f()", "ask x")), 11)
        self.assertEqual(size(Opened([], [], 0)), 0)


class TestBounds(unittest.TestCase):
    TWO, THREE, SIX = HALF, [(1, 1), (2, 1), (3, 1)], [(number, 1) for number in range(6)]
    DRAWS = [TWO, THREE, SIX, [(9, 9)]]

    def test_each_kind_of_term(self):
        for term, wanted in [
            (num(5), 1), (slot(3), 1), (draw(0), 2), (draw(1), 3), (draw(2), 6), (draw(3), 1),
            (op("+", draw(0), draw(1)), 6), (op("<", num(1), draw(2)), 6), (("rest", draw(1), 2), 3),
            (("field", draw(1), "a"), 3), (("record", (("a", draw(0)), ("b", draw(1)), ("c", num(1)))), 6),
            (bind(1, draw(0), op("*", slot(1), draw(1))), 6), (bind(1, draw(2), slot(1)), 6), (("record", ()), 1),
        ]:
            with self.subTest(term):
                self.assertEqual(bound_of(term, self.DRAWS), wanted)

    def test_ifs(self):
        for test, one, other, wanted in [
            (num(1), draw(0), draw(1), 3), (num(1), draw(1), draw(0), 3), (draw(0), draw(1), draw(2), 12),
            (draw(0), num(1), num(2), 2), (draw(2), op("+", draw(0), draw(1)), draw(1), 36),
            (slot(0), slot(1), slot(2), 1),
        ]:
            self.assertEqual(bound_of(("if", test, one, other), self.DRAWS), wanted)

    def test_of_programs(self):
        self.assertEqual(bound(opened_text("ask 1")), 1)
        self.assertEqual(bound(opened_text("let x = flip(1/2)", "see pick(1:1, 2:1, 0:1)", "ask x")), 6)
        self.assertEqual(bound(opened_text("let x = flip(1/2)", "ask if(x, flip(1/2), pick(1:1, 2:1, 3:1))")), 6)
        self.assertEqual(bound(opened_text("let x = 0", "again 10 x = x + flip(1/2)", "ask x")), 1024)
        self.assertEqual(bound(opened_text("def f(a) = a + flip(1/2)", "ask f(flip(1/2)) + f(1)")), 8)
        self.assertEqual(bound(Opened([], [], 0)), 1)

    def test_great_bounds(self):
        six = "pick(0:1, 1:1, 2:1, 3:1, 4:1, 5:1)"
        thirty = f"again 30 x = {six}"
        self.assertEqual(bound(opened_text("let x = 0", thirty, thirty, "ask x")), 6 ** 60)

    def test_nothing_hangs_on_slots(self):
        one = Opened([(5, slot(77)), (5, bind(5, draw(0), slot(99))), (-1, draw(0))], [self.THREE], 0)
        self.assertEqual(bound(one), 9)
        self.assertEqual(size(one), 5)

    def test_deep_terms(self):
        term = draw(0)
        for each in range(30):
            term = op("+", num(1), term)
        self.assertEqual(bound_of(term, self.DRAWS), 2)
        self.assertEqual(size(Opened([(0, term)], self.DRAWS, 1)), 61)


if __name__ == "__main__":
    unittest.main()
