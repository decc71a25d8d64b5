"""How a program is written: promise 10."""

import unittest
from itertools import product

from flipwright.errors import NoText
from flipwright.reader import read
from flipwright.writer import shown, shown_term
from making import SIGNS, made_programs, op

A, B, C, D = [("name", letter) for letter in "abcd"]
ONE = ("num", 1)
GREATEST = 10 ** 12 - 1

# As the document lists them: where an op with the inner sign is put into ( and ) as a part of one with the outer sign.
LEFT_IN_BRACKETS = {"=": "=<", "<": "=<", "+": "=<", "-": "=<", "*": "+-=<"}
RIGHT_IN_BRACKETS = {"=": "=<", "<": "=<", "+": "+-=<", "-": "+-=<", "*": "+-*=<"}


def term_of(text):
    return read("ask " + text)[0][1]


class TestTerms(unittest.TestCase):
    def assert_shown(self, term, wanted):
        with self.subTest(wanted):
            self.assertEqual(shown_term(term), wanted)
            self.assertEqual(term_of(wanted), term)

    def test_each_kind(self):
        self.assert_shown(("num", 0), "0")
        self.assert_shown(("num", GREATEST), "999999999999")
        self.assert_shown(A, "a")
        self.assert_shown(("flip", 1, 2), "flip(1/2)")
        self.assert_shown(("flip", 2, 4), "flip(2/4)")
        self.assert_shown(("pick", ((3, 1), (5, 2))), "pick(3:1, 5:2)")
        self.assert_shown(("pick", ((0, 10 ** 6),)), "pick(0:1000000)")
        self.assert_shown(("if", A, B, C), "if(a, b, c)")
        for sign in SIGNS:
            self.assert_shown(op(sign, A, B), f"a {sign} b")
        self.assert_shown(("rest", A, 7), "rest(a, 7)")
        self.assert_shown(("record", (("ab", ONE), ("c", ("field", ("name", "x"), "d")))), "{ab: 1, c: x.d}")
        self.assert_shown(("record", (("b", A), ("a", B))), "{b: a, a: b}")
        self.assert_shown(("field", A, "b"), "a.b")
        self.assert_shown(("call", "f", ()), "f()")
        self.assert_shown(("call", "f", (A,)), "f(a)")
        self.assert_shown(("call", "f", (A, B, C)), "f(a, b, c)")

    def test_left_parts_of_ops(self):
        for outer, inner in product(SIGNS, repeat=2):
            if inner in LEFT_IN_BRACKETS[outer]:
                self.assert_shown(op(outer, op(inner, A, B), C), f"(a {inner} b) {outer} c")
            else:
                self.assert_shown(op(outer, op(inner, A, B), C), f"a {inner} b {outer} c")

    def test_right_parts_of_ops(self):
        for outer, inner in product(SIGNS, repeat=2):
            if inner in RIGHT_IN_BRACKETS[outer]:
                self.assert_shown(op(outer, A, op(inner, B, C)), f"a {outer} (b {inner} c)")
            else:
                self.assert_shown(op(outer, A, op(inner, B, C)), f"a {outer} b {inner} c")

    def test_both_parts_of_ops(self):
        for outer, left, right in product(SIGNS, repeat=3):
            one = f"(a {left} b)" if left in LEFT_IN_BRACKETS[outer] else f"a {left} b"
            other = f"(c {right} d)" if right in RIGHT_IN_BRACKETS[outer] else f"c {right} d"
            self.assert_shown(op(outer, op(left, A, B), op(right, C, D)), f"{one} {outer} {other}")

    def test_brackets_stand_only_where_there_is_need(self):
        for outer, inner in product(SIGNS, repeat=2):
            for term in (op(outer, op(inner, A, B), C), op(outer, A, op(inner, B, C))):
                text = shown_term(term)
                if "(" in text:
                    try:
                        self.assertNotEqual(term_of(text.replace("(", "").replace(")", "")), term)
                    except NoText:
                        pass

    def test_the_term_of_a_field(self):
        for sign in SIGNS:
            self.assert_shown(("field", op(sign, A, B), "c"), f"(a {sign} b).c")
        self.assert_shown(("field", ONE, "c"), "1.c")
        self.assert_shown(("field", ("flip", 1, 2), "c"), "flip(1/2).c")
        self.assert_shown(("field", ("pick", ((1, 1),)), "c"), "pick(1:1).c")
        self.assert_shown(("field", ("if", A, B, C), "c"), "if(a, b, c).c")
        self.assert_shown(("field", ("rest", A, 2), "c"), "rest(a, 2).c")
        self.assert_shown(("field", ("record", (("c", A),)), "c"), "{c: a}.c")
        self.assert_shown(("field", ("field", A, "b"), "c"), "a.b.c")
        self.assert_shown(("field", ("call", "f", (A,)), "c"), "f(a).c")

    def test_ops_at_other_places_have_no_brackets(self):
        for sign in SIGNS:
            term = op(sign, A, B)
            text = f"a {sign} b"
            self.assert_shown(("if", term, term, term), f"if({text}, {text}, {text})")
            self.assert_shown(("rest", term, 2), f"rest({text}, 2)")
            self.assert_shown(("record", (("c", term), ("d", term))), f"{{c: {text}, d: {text}}}")
            self.assert_shown(("call", "f", (term, term)), f"f({text}, {text})")

    def test_what_is_no_op_has_no_brackets(self):
        for term, text in [
            (ONE, "1"), (A, "a"), (("flip", 1, 2), "flip(1/2)"), (("pick", ((1, 1),)), "pick(1:1)"),
            (("if", A, B, C), "if(a, b, c)"), (("rest", A, 2), "rest(a, 2)"), (("record", (("c", A),)), "{c: a}"),
            (("field", A, "b"), "a.b"), (("call", "f", ()), "f()"),
        ]:
            for sign in SIGNS:
                self.assert_shown(op(sign, term, term), f"{text} {sign} {text}")

    def test_long_chains(self):
        left = A
        right = A
        for each in range(9):
            left = op("-", left, B)
            right = op("-", B, right)
        self.assert_shown(left, "a" + " - b" * 9)
        self.assert_shown(right, "b - (" * 8 + "b - a" + ")" * 8)
        self.assert_shown(op("=", op("+", A, op("*", B, C)), op("-", op("-", A, B), C)), "a + b * c = a - b - c")
        self.assert_shown(op("*", op("*", op("+", A, B), C), op("*", C, D)), "(a + b) * c * (c * d)")


class TestPrograms(unittest.TestCase):
    def assert_shown(self, text):
        with self.subTest(text):
            program = read(text)
            self.assertEqual(shown(program), text)

    def test_each_kind_of_row(self):
        self.assertEqual(shown([("ask", ONE)]), "ask 1")
        self.assertEqual(shown([("see", A), ("ask", ONE)]), "see a\nask 1")
        self.assertEqual(shown([("let", "x", ONE), ("ask", ONE)]), "let x = 1\nask 1")
        self.assertEqual(shown([("again", 30, "x", ONE), ("ask", ONE)]), "again 30 x = 1\nask 1")
        self.assertEqual(shown([("again", 0, "x", ONE), ("ask", ONE)]), "again 0 x = 1\nask 1")
        self.assertEqual(shown([("def", "f", (), ONE), ("ask", ONE)]), "def f() = 1\nask 1")
        self.assertEqual(shown([("def", "f", ("x",), ONE), ("ask", ONE)]), "def f(x) = 1\nask 1")
        self.assertEqual(shown([("def", "f", ("z", "y", "x"), ONE), ("ask", ONE)]), "def f(z, y, x) = 1\nask 1")

    def test_whole_ops_in_rows_have_no_brackets(self):
        for sign in SIGNS:
            self.assert_shown(f"def f(a) = a {sign} 1\nlet x = 1 {sign} 1\nagain 2 x = x {sign} 1\n"
                              f"see x {sign} 1\nask x {sign} 1")

    def test_words_that_begin_rows_as_names(self):
        self.assert_shown("def def(see) = see\nlet let = ask(again, def)\nagain 1 again = 1\nsee see.see\nask ask")

    def test_blanks_and_needless_brackets_are_left_out(self):
        self.assertEqual(shown(read("  def f ( a,b )=( ( a ) )\nagain3x=(1)+2\nsee((x)<(1+1))\nask  {a:(1),b :2} .a")),
                         "def f(a, b) = a\nagain 3 x = 1 + 2\nsee x < 1 + 1\nask {a: 1, b: 2}.a")

    def test_what_is_shown_is_read_to_the_same(self):
        programs = made_programs(400, 3) + made_programs(200, 4)
        self.assertGreater(len(programs), 300)
        for program in programs:
            text = shown(program)
            self.assertEqual(read(text), program, text)
            self.assertEqual(shown(read(text)), text)

    def test_the_widest_rows(self):
        pairs = ",".join(f"{number}:999999" for number in range(999999999990, 999999999996))
        text = f"ask pick({pairs})*pick({pairs})+x+x+x"
        self.assertEqual(read(shown(read(text))), read(text))
        self.assertEqual(shown(read(shown(read(text)))), shown(read(text)))

    def test_what_is_handed_in_stays(self):
        program = read("def f(a, b) = {c: a + b}\nlet x = f(1, 2)\nask x.c")
        before = list(program)
        shown(program)
        self.assertEqual(program, before)

    def test_argument_names(self):
        self.assertEqual(shown(program=[("ask", ONE)]), "ask 1")
        self.assertEqual(shown_term(term=A), "a")


if __name__ == "__main__":
    unittest.main()
