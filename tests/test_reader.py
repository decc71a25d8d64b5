"""How a text is read to a program: promises 7, 8 and 9."""

import ast
import unittest
from itertools import product

from flipwright.errors import NoText
from flipwright.reader import read
from flipwright.words import words_of
from making import op

ONE = ("num", 1)
X = ("name", "x")
GREATEST = 10 ** 12 - 1
SIX_PAIRS = "pick(0:1,1:1,2:1,3:1,4:1,5:1)"


def row_of(text):
    program = read(text + "\nask 1")
    assert program[1:] == [("ask", ONE)]
    return program[0]


def term_of(text):
    program = read("ask " + text)
    assert len(program) == 1 and program[0][0] == "ask"
    return program[0][1]


class ReaderCase(unittest.TestCase):
    def assert_bad(self, text, row=0):
        with self.subTest(text):
            with self.assertRaises(NoText) as taken:
                read(text)
            self.assertEqual(taken.exception.row, row)

    def assert_bad_row(self, text):
        self.assert_bad(text + "\nask 1", 0)
        self.assert_bad("let x = 1\n" + text + "\nask 1", 1)

    def assert_bad_term(self, text):
        self.assert_bad("ask " + text, 0)
        self.assert_bad_row("let x = " + text)

    def assert_term(self, text, wanted):
        with self.subTest(text):
            self.assertEqual(term_of(text), wanted)


class TestRows(ReaderCase):
    def test_each_kind(self):
        self.assertEqual(row_of("def f(a, b) = a"), ("def", "f", ("a", "b"), ("name", "a")))
        self.assertEqual(row_of("def f() = 1"), ("def", "f", (), ONE))
        self.assertEqual(row_of("let x = 1"), ("let", "x", ONE))
        self.assertEqual(row_of("again 3 x = 1"), ("again", 3, "x", ONE))
        self.assertEqual(row_of("see x"), ("see", X))
        self.assertEqual(read("ask x"), [("ask", X)])

    def test_a_whole_program(self):
        self.assertEqual(
            read("def f(a) = a + 1\nlet x = f(2)\nagain 2 x = f(x)\nsee x < 9\nask x"),
            [("def", "f", ("a",), op("+", ("name", "a"), ONE)),
             ("let", "x", ("call", "f", (("num", 2),))),
             ("again", 2, "x", ("call", "f", (X,))),
             ("see", op("<", X, ("num", 9))),
             ("ask", X)])

    def test_names_are_not_looked_up(self):
        self.assertEqual(read("ask f(x)"), [("ask", ("call", "f", (X,)))])
        self.assertEqual(row_of("again 1 y = z"), ("again", 1, "y", ("name", "z")))

    def test_blanks(self):
        self.assertEqual(row_of("again3x=1"), ("again", 3, "x", ONE))
        self.assertEqual(row_of("   again   3   x   =   1   "), ("again", 3, "x", ONE))
        self.assertEqual(row_of("  def f ( a ,b )=a"), ("def", "f", ("a", "b"), ("name", "a")))
        self.assertEqual(row_of("def f(a,b)=a"), ("def", "f", ("a", "b"), ("name", "a")))
        self.assertEqual(read("ask1"), [("ask", ONE)])
        self.assertEqual(read("ask(x)"), [("ask", X)])
        self.assertEqual(read("ask{x:1}"), [("ask", ("record", (("x", ONE),)))])
        self.assertEqual(term_of("  if ( 1 , x ,1 )  "), ("if", ONE, X, ONE))
        self.assertEqual(term_of(" x . x . x "), ("field", ("field", X, "x"), "x"))
        self.assertEqual(term_of("flip ( 1 / 2 )"), ("flip", 1, 2))
        self.assertEqual(term_of("pick ( 3 : 1 )"), ("pick", ((3, 1),)))

    def test_blanks_that_part_what_is_one(self):
        for text in ("as k 1", "ask 1 0", "ask x y", "ask f(1 2)"):
            self.assert_bad(text)

    def test_letters_side_by_side_are_one_word(self):
        for text in ("letx = 1", "seex", "againx = 1", "deff() = 1", "let x = if1(1,1)"):
            self.assert_bad_row(text)
        self.assert_bad("askx")

    def test_what_is_no_row(self):
        for text in ("x = 1", "1", "x", "=", "lets x = 1", "Let x = 1", "LET x = 1", "(see 1)", "3 again x = 1"):
            self.assert_bad_row(text)
        for text in ("Ask 1", "asks 1", "1", "x", "(ask 1)"):
            self.assert_bad(text)

    def test_rows_that_lack_a_thing(self):
        for text in ("def f(a) =", "def f(a) 1", "def f(a = 1", "def f a) = 1", "def (a) = 1", "def f = 1", "def f",
                     "def", "let x =", "let x 1", "let = 1", "let x", "let", "again 3 x =", "again 3 x 1",
                     "again 3 = 1", "again x = 1", "again 3 x", "again 3", "again", "see"):
            self.assert_bad_row(text)
        self.assert_bad("ask")

    def test_rows_with_a_thing_too_much(self):
        for text in ("def f(a) = 1 1", "def f(a)(b) = 1", "def f(a) == 1", "def f(1) = 1", "def f(a.b) = 1",
                     "let x y = 1", "let x = 1)", "let x = 1,", "let 3 x = 1", "let x.a = 1", "let (x) = 1",
                     "again 3 3 x = 1", "again 3, x = 1", "again (3) x = 1", "again 3 x y = 1", "see 1 1", "see 1;",
                     "see = 1", "see x = "):
            self.assert_bad_row(text)
        for text in ("ask 1 1", "ask ask 1", "ask 1 ask", "ask = 1", "ask let x = 1 1"):
            self.assert_bad(text)


class TestWhichRow(ReaderCase):
    def test_the_empty_text_and_empty_rows(self):
        self.assert_bad("", 0)
        self.assert_bad(" ", 0)
        self.assert_bad("\n", 0)
        self.assert_bad("\nask 1", 0)
        self.assert_bad("let x = 1\n\nask 1", 1)
        self.assert_bad("let x = 1\n   \nask 1", 1)

    def test_a_last_row_that_is_no_ask(self):
        for row in ("def f() = 1", "let x = 1", "again 1 x = 1", "see 1", ""):
            self.assert_bad(row, 0)
            self.assert_bad("let x = 1\n" + row, 1)
            self.assert_bad("let x = 1\nsee 1\n" + row, 2)

    def test_an_ask_that_is_not_the_last_row(self):
        self.assert_bad("ask 1\nask 1", 0)
        self.assert_bad("ask 1\n", 0)
        self.assert_bad("ask 1\nlet x = 1", 0)
        self.assert_bad("see 1\nask 1\nask 1", 1)
        self.assert_bad("see 1\nask 1\nsee 1\nsee 1", 1)

    def test_the_first_of_several_bad_rows(self):
        self.assert_bad("let x = 1\nlet = 1\nsee\nask", 1)
        self.assert_bad("let\nlet = 1\nask 1", 0)
        self.assert_bad("let x = 1\nsee 1\nask 1\nlet", 2)
        self.assert_bad("let x = 1\nsee 1 1\nask 1\nask 1", 1)
        self.assert_bad("see 1\nsee 1\nlet x = 2 +\nlet x = 1", 2)
        self.assert_bad("see pick(1:0)\nask 1 %", 0)

    def test_forty_rows(self):
        for row in ("let x = 1", "see 1", "def f() = 1", "again 30 x = 1"):
            self.assertEqual(len(read("\n".join([row] * 39 + ["ask 1"]))), 40)
        self.assert_bad("\n".join(["see 1"] * 40), 39)

    def test_more_than_forty_rows(self):
        for last in ("ask 1", "see 1", "", "ask", "%"):
            self.assert_bad("\n".join(["see 1"] * 40 + [last]), 40)
            self.assert_bad("\n".join(["see 1"] * 40 + [last, last]), 40)
            self.assert_bad("\n".join(["see 1"] * 200 + [last]), 40)

    def test_bad_rows_ahead_of_the_forty_first(self):
        self.assert_bad("\n".join(["see 1"] * 39 + ["ask 1", "ask 1"]), 39)
        self.assert_bad("\n".join(["see 1"] * 39 + ["see", "ask 1"]), 39)
        self.assert_bad("\n".join(["see 1"] * 5 + ["see"] + ["see 1"] * 60 + ["ask 1"]), 5)
        self.assert_bad("\n".join(["ask 1"] * 41), 0)


class TestSigns(ReaderCase):
    def test_the_percent_sign(self):
        for text in ("ask 1 % 1", "ask %", "ask 5%", "%ask 1", "ask 1 %", "ask f(%)", "%"):
            self.assert_bad(text, 0)
            self.assert_bad("see 1\n" + text, 1)

    def test_tabs_and_their_like(self):
        for sign in ("\t", "\r", "\v", "\f", "\0", "\x1c", "\x1f", "\x7f"):
            self.assert_bad("ask" + sign + "1")
            self.assert_bad("ask 1" + sign)
            self.assert_bad(sign + "ask 1")
            self.assert_bad("see 1\nsee 1" + sign + "\nask 1", 1)
            self.assert_bad("see 1" + sign + "ask 1", 0)

    def test_signs_that_have_no_place(self):
        for sign in "!\"#$&';>?@[\\]^_`|~":
            for text in ("ask 1" + sign, "ask " + sign + "1", "ask 1 " + sign + " 1", "ask " + sign, "ask x" + sign):
                self.assert_bad(text)

    def test_signs_out_of_place(self):
        for text in ("ask -1", "ask +1", "ask 1 +", "ask * 1", "ask 1 * * 1", "ask 1 + - 1", "ask 1:1", "ask 1/2",
                     "ask 1,1", "ask .x", "ask x.", "ask x..x", "ask x.1", "ask 1.5", "ask x.(x)", "ask x.x(1)",
                     "ask 1(1)", "ask f(1)(1)", "ask (f)(1)", "ask <", "ask =", "ask 1 <= 1", "ask 1 == 1"):
            self.assert_bad(text)


class TestNumbers(ReaderCase):
    def test_nums(self):
        for number in (0, 1, 9, 10, 30, 31, 100, 10 ** 6, 10 ** 11, GREATEST - 1, GREATEST):
            self.assert_term(str(number), ("num", number))
        self.assert_term("999999999999", ("num", GREATEST))
        for text in ("1000000000000", "9999999999999", "1" * 100, "1" * 900):
            self.assert_bad_term(text)

    def test_noughts_ahead(self):
        for text in ("00", "01", "000000000001", "0000000000000", "0000000000001", "x + 01", "flip(01/2)", "flip(1/02)",
                     "pick(01:1)", "pick(00:1)", "pick(1:01)", "rest(1, 02)", "rest(1, 00)"):
            self.assert_bad_term(text)
        self.assert_bad_row("again 03 x = 1")
        self.assert_bad_row("again 00 x = 1")

    def test_agains(self):
        for number in range(31):
            self.assertEqual(row_of(f"again {number} x = 1"), ("again", number, "x", ONE))
        for text in ("31", "32", "100", "1000000000000", "-1", "x", "30.a", "(3)"):
            self.assert_bad_row(f"again {text} x = 1")

    def test_flips(self):
        for top, bottom in ((1, 2), (1, 3), (2, 3), (2, 4), (1, 10 ** 6), (999998, 999999), (999999, 10 ** 6)):
            self.assert_term(f"flip({top}/{bottom})", ("flip", top, bottom))
        for text in ("0/1", "0/2", "1/1", "2/2", "2/1", "1/0", "0/0", "1/1000001", "999999/1000001", "1000000/1000000",
                     "1000000/1000001", "999999/999999", "1/1000000000000", "", "1", "1/", "/2", "1:2", "1/2/3",
                     "1/2,1/2", "1,2", "x/2", "1/x", "1+1/3", "(1/2)", "1/2,"):
            self.assert_bad_term(f"flip({text})")

    def test_picks(self):
        for number, weight in ((0, 1), (1, 1), (GREATEST, 1), (GREATEST - 1, 10 ** 6), (5, 999999)):
            self.assert_term(f"pick({number}:{weight})", ("pick", ((number, weight),)))
        for text in ("1:0", "0:0", "1:1000001", "1000000000000:1", "1:1000000000000", "1", "1:", ":1", "1/1", "1:1:1",
                     "x:1", "1:x", "-1:1", "1+1:1", "(1:1)", "1:1 2:1", "1:1;2:1"):
            self.assert_bad_term(f"pick({text})")

    def test_rests(self):
        for number in (1, 2, 10 ** 6, GREATEST - 1, GREATEST):
            self.assert_term(f"rest(x, {number})", ("rest", X, number))
        for text in ("x, 0", "x, 1000000000000", "x, x", "x, -1", "x, (1)", "x, 1+1", "x", "", "x,", ", 1", "x 1",
                     "x, 1, 1", "x, 1,"):
            self.assert_bad_term(f"rest({text})")


class TestNames(ReaderCase):
    PLACES = ["let {} = 1", "again 1 {} = 1", "def {}() = 1", "def f({}) = 1", "def f(a, {}) = 1", "see {}", "see {}()",
              "see {}(x, y)", "see x.{}", "see x.{}.x", "see {{{}: 1}}", "see {{x: 1, {}: 2}}"]

    def test_one_to_eight_letters(self):
        for name in ("z", "yz", "abcdefg", "abcdefgh", "zzzzzzzz", "iff", "flips", "i", "picked", "rests"):
            for place in self.PLACES:
                with self.subTest(name=name, place=place):
                    self.assertIn(repr(name), repr(row_of(place.format(name))))

    def test_what_is_no_name(self):
        for name in ("abcdefghi", "a" * 1000, "X", "xY", "Xy", "abcdefgH", "flip", "pick", "if", "rest",
                     "x3", "3x", "a_b", "_", "a b"):
            for place in self.PLACES:
                self.assert_bad_row(place.format(name))

    def test_no_name_at_all(self):
        for text in ("let = 1", "again 1 = 1", "def () = 1", "def (a) = 1", "def f(a, ) = 1", "def f( , a) = 1",
                     "see x.", "see x..x", "see {: 1}", "see {x: 1, : 2}"):
            self.assert_bad_row(text)

    def test_a_number_in_the_place_of_a_name(self):
        for place in self.PLACES:
            if place != "see {}":
                self.assert_bad_row(place.format("3"))

    def test_words_that_begin_rows_are_names_elsewhere(self):
        for name in ("def", "let", "again", "see", "ask"):
            for place in self.PLACES:
                with self.subTest(name=name, place=place):
                    self.assertIn(repr(name), repr(row_of(place.format(name))[1:]))
        self.assertEqual(read("ask ask"), [("ask", ("name", "ask"))])
        self.assertEqual(read("ask ask(ask)"), [("ask", ("call", "ask", (("name", "ask"),)))])
        self.assertEqual(row_of("let let = let"), ("let", "let", ("name", "let")))
        self.assertEqual(row_of("def def(def) = def"), ("def", "def", ("def",), ("name", "def")))
        self.assertEqual(row_of("again 2 again = again"), ("again", 2, "again", ("name", "again")))
        self.assertEqual(row_of("see see.see"), ("see", ("field", ("name", "see"), "see")))

    def test_words_with_a_form_of_their_own(self):
        for text in ("if", "flip", "pick", "rest", "if + 1", "x + rest", "if.a", "{if: 1}", "if{a: 1}", "x.if"):
            self.assert_bad_term(text)


class TestLists(ReaderCase):
    KINDS = [
        # ahead, behind, a thing by its number, the least and the most of them
        ("see pick(", ")", "{}:1", 1, 6),
        ("see {", "}", "n{}: 1", 1, 6),
        ("see f(", ")", "{}", 0, 3),
        ("def f(", ") = 1", "n{}", 0, 3),
        ("see if(", ")", "{}", 3, 3),
    ]

    def things(self, form, many):
        return [form.replace("n{}", "abcdefgh"[number]).replace("{}", str(number)) for number in range(many)]

    def test_none_to_seven_things(self):
        for ahead, behind, form, least, most in self.KINDS:
            for many in range(8):
                text = ahead + ", ".join(self.things(form, many)) + behind
                if least <= many <= most:
                    with self.subTest(text):
                        row_of(text)
                else:
                    self.assert_bad_row(text)

    def test_commas(self):
        for ahead, behind, form, least, most in self.KINDS:
            for many in range(1, most + 1):
                things = self.things(form, many)
                self.assert_bad_row(ahead + ", " + ", ".join(things) + behind)
                self.assert_bad_row(ahead + ", ".join(things) + "," + behind)
                if many > 1:
                    self.assert_bad_row(ahead + ",, ".join(things) + behind)
                    self.assert_bad_row(ahead + " ".join(things) + behind)
                    self.assert_bad_row(ahead + "; ".join(things) + behind)
            self.assert_bad_row(ahead + "," + behind)

    def test_what_lists_are_read_to(self):
        self.assert_term("pick(5:2, 3:1, 4:9)", ("pick", ((5, 2), (3, 1), (4, 9))))
        self.assert_term("{b: 1, a: x}", ("record", (("b", ONE), ("a", X))))
        self.assert_term("f()", ("call", "f", ()))
        self.assert_term("f(x)", ("call", "f", (X,)))
        self.assert_term("f(x, 1, x)", ("call", "f", (X, ONE, X)))
        self.assert_term("f(x = 1, {a: 1})", ("call", "f", (op("=", X, ONE), ("record", (("a", ONE),)))))
        self.assertEqual(row_of("def f(c, b, a) = 1"), ("def", "f", ("c", "b", "a"), ONE))
        self.assert_term(SIX_PAIRS, ("pick", tuple((number, 1) for number in range(6))))

    def test_alike_things(self):
        for text in ("pick(1:1, 1:1)", "pick(1:1, 2:1, 1:2)", "pick(0:1,1:1,2:1,3:1,4:1,0:1)", "{a: 1, a: 1}",
                     "{a: 1, b: 1, a: 2}", "{b: 1, a: 2, a: 3}"):
            self.assert_bad_term(text)
        for text in ("def f(a, a) = 1", "def f(a, b, a) = 1", "def f(a, b, b) = 1"):
            self.assert_bad_row(text)

    def test_alike_things_that_may_be(self):
        self.assert_term("pick(1:2, 2:2)", ("pick", ((1, 2), (2, 2))))
        self.assert_term("{a: x, b: x}", ("record", (("a", X), ("b", X))))
        self.assert_term("{a: {a: 1}}", ("record", (("a", ("record", (("a", ONE),))),)))
        self.assert_term("f(x, x)", ("call", "f", (X, X)))
        self.assertEqual(row_of("def f(f) = f"), ("def", "f", ("f",), ("name", "f")))

    def test_fields_of_a_record(self):
        for text in ("{a 1}", "{a:}", "{:1}", "{a = 1}", "{1: 1}", "{a: 1: 1}", "{a.b: 1}", "{(a): 1}", "{a, b}",
                     "{a}"):
            self.assert_bad_term(text)
        self.assert_term("{a: 1 < 1}", ("record", (("a", op("<", ONE, ONE)),)))


class TestTerms(ReaderCase):
    def test_each_kind(self):
        self.assert_term("7", ("num", 7))
        self.assert_term("x", X)
        self.assert_term("flip(1/2)", ("flip", 1, 2))
        self.assert_term("pick(3:1, 5:2)", ("pick", ((3, 1), (5, 2))))
        self.assert_term("if(x, 1, 2)", ("if", X, ONE, ("num", 2)))
        for sign in "+-*=<":
            self.assert_term("x " + sign + " 1", op(sign, X, ONE))
            self.assert_term("x" + sign + "1", op(sign, X, ONE))
        self.assert_term("rest(x, 5)", ("rest", X, 5))
        self.assert_term("{a: x}", ("record", (("a", X),)))
        self.assert_term("x.a", ("field", X, "a"))
        self.assert_term("f(x)", ("call", "f", (X,)))
        self.assert_term("(x)", X)
        self.assert_term("(((x)))", X)

    def test_whole_terms_within_others(self):
        less = op("<", X, ONE)
        self.assert_term("if(x < 1, x < 1, x < 1)", ("if", less, less, less))
        self.assert_term("rest(x < 1, 2)", ("rest", less, 2))
        self.assert_term("f(x < 1, x < 1)", ("call", "f", (less, less)))
        self.assert_term("(x < 1) < (x < 1)", op("<", less, less))

    def test_fields_of_fields(self):
        self.assert_term("x.a.b.c", ("field", ("field", ("field", X, "a"), "b"), "c"))
        self.assert_term("1.a", ("field", ONE, "a"))
        self.assert_term("{a: 1}.a", ("field", ("record", (("a", ONE),)), "a"))
        self.assert_term("f(x).a", ("field", ("call", "f", (X,)), "a"))
        self.assert_term("flip(1/2).a", ("field", ("flip", 1, 2), "a"))
        self.assert_term("if(1, 1, 1).a", ("field", ("if", ONE, ONE, ONE), "a"))
        self.assert_term("(x + 1).a", ("field", op("+", X, ONE), "a"))
        self.assert_term("(x.a).b", ("field", ("field", X, "a"), "b"))
        self.assert_term("x + x.a", op("+", X, ("field", X, "a")))
        self.assert_term("x.a * x.b", op("*", ("field", X, "a"), ("field", X, "b")))

    def test_which_sign_is_taken_first(self):
        a, b, c = ("name", "a"), ("name", "b"), ("name", "c")
        self.assert_term("a - b + c", op("+", op("-", a, b), c))
        self.assert_term("a - b - c", op("-", op("-", a, b), c))
        self.assert_term("a - (b - c)", op("-", a, op("-", b, c)))
        self.assert_term("a * b * c", op("*", op("*", a, b), c))
        self.assert_term("a + b * c", op("+", a, op("*", b, c)))
        self.assert_term("a * b + c", op("+", op("*", a, b), c))
        self.assert_term("(a + b) * c", op("*", op("+", a, b), c))
        self.assert_term("a + b = c", op("=", op("+", a, b), c))
        self.assert_term("a < b * c", op("<", a, op("*", b, c)))
        self.assert_term("(a = b) + c", op("+", op("=", a, b), c))
        self.assert_term("(a = b) = c", op("=", op("=", a, b), c))

    def test_the_equals_of_a_row_and_of_a_term(self):
        self.assertEqual(row_of("let x = x = 1"), ("let", "x", op("=", X, ONE)))
        self.assertEqual(row_of("def f(x) = x = 1"), ("def", "f", ("x",), op("=", X, ONE)))
        self.assertEqual(row_of("again 1 x = x = 1"), ("again", 1, "x", op("=", X, ONE)))
        self.assert_bad_row("let x = x = 1 = 1")

    # Python ranks these signs likewise, so its own reading tells what is to come.
    def python_term(self, node):
        signs = {ast.Add: "+", ast.Sub: "-", ast.Mult: "*", ast.Eq: "=", ast.Lt: "<"}
        if isinstance(node, ast.Name):
            return ("name", node.id)
        if isinstance(node, ast.BinOp):
            return op(signs[type(node.op)], self.python_term(node.left), self.python_term(node.right))
        if len(node.ops) > 1:
            return None
        return op(signs[type(node.ops[0])], self.python_term(node.left), self.python_term(node.comparators[0]))

    def test_chains_as_python_reads_them(self):
        for many in (1, 2, 3, 4):
            for signs in product("+-*=<", repeat=many):
                text = "a" + "".join(f" {sign} {name}" for sign, name in zip(signs, "bcde"))
                wanted = self.python_term(ast.parse(text.replace("=", "=="), mode="eval").body)
                if wanted is None:
                    self.assert_bad("ask " + text)
                else:
                    self.assertEqual(term_of(text), wanted, text)

    def test_brackets_that_do_not_match(self):
        for text in ("(", ")", "(1", "1)", "((1)", "(1))", "()", "(1}", "{a: 1)", "{a: 1", "a: 1}", "f(1", "f 1)",
                     "f(1}", "f{1}", "if(1, 1, 1", "if{1, 1, 1}", "rest(1, 1", "flip(1/2", "pick(1:1", "pick{1:1}",
                     "[1]", "f[1]"):
            self.assert_bad_term(text)

    def test_lists_and_nothing_else_are_tuples(self):
        program = read("def f(a) = {b: f(a)}\nask pick(1:1, 2:2)")
        self.assertIs(type(program), list)

        def look(thing):
            self.assertIn(type(thing), (tuple, int, str))
            if isinstance(thing, tuple):
                for part in thing:
                    look(part)

        for row in program:
            look(row)


class TestBoundsOfARow(ReaderCase):
    def test_brackets_ten_and_eleven_deep(self):
        for many in (9, 10):
            self.assert_term("(" * many + "x" + ")" * many, X)
        self.assert_bad_term("(" * 11 + "x" + ")" * 11)
        self.assert_bad_term("(" * 29 + "x" + ")" * 29)

    def test_brackets_of_both_kinds(self):
        self.assert_term("(" * 9 + "{a: x}" + ")" * 9, ("record", (("a", X),)))
        self.assert_bad_term("(" * 10 + "{a: x}" + ")" * 10)
        self.assert_bad_term("{a: " + "(" * 10 + "x" + ")" * 10 + "}")
        self.assert_bad_term("(" * 5 + "{a: " * 2 + "(" * 4 + "x" + ")" * 4 + "}" * 2 + ")" * 5)
        read("ask " + "(" * 4 + "{a: " * 2 + "(" * 4 + "x" + ")" * 4 + "}" * 2 + ")" * 4)

    def test_brackets_of_words(self):
        for head in ("f()", "f(x)", "flip(1/2)", "pick(1:1)", "if(1, 1, 1)", "rest(1, 1)"):
            with self.subTest(head):
                term_of("(" * 9 + head + ")" * 9)
            self.assert_bad_term("(" * 10 + head + ")" * 10)

    def test_brackets_side_by_side(self):
        deep = "(" * 10 + "x" + ")" * 10
        self.assert_term(deep + "+" + deep, op("+", X, X))
        self.assertEqual(row_of("def f(x) = " + deep), ("def", "f", ("x",), X))
        record = "(" * 9 + "{a: x}" + ")" * 9
        self.assert_term(record + "+" + record, op("+", ("record", (("a", X),)), ("record", (("a", X),))))
        for shallow in ("(x)", "{a: x}", "f(x)", "((x))", "{a: (x)}"):
            self.assert_bad_term(shallow + "+" + "(" * 11 + "x" + ")" * 11)
            self.assert_bad_term("(" * 11 + "x" + ")" * 11 + "+" + shallow)

    def test_terms_ten_and_eleven_deep(self):
        deeper = [
            ("(", ".a)"), ("rest(", ", 2)"), ("f(", ")"), ("{a: ", "}"),
        ]
        for ahead, behind in deeper:
            term_of(ahead * 9 + "x" + behind * 9)
            self.assert_bad_term(ahead * 10 + "x" + behind * 10)

    def test_chains_ten_and_eleven_deep(self):
        for sign in "+-*":
            term_of(sign.join(["x"] * 10))
            self.assert_bad_term(sign.join(["x"] * 11))
        term_of("x" + ".a" * 9)
        self.assert_bad_term("x" + ".a" * 10)
        self.assert_bad_term("x" + ".a" * 28)
        term_of("x = " + "+".join(["x"] * 9))
        self.assert_bad_term("x = " + "+".join(["x"] * 10))
        self.assert_bad_term("+".join(["x"] * 10) + " < x")

    def test_deep_parts_at_each_place(self):
        nine = "x" + ".a" * 8
        ten = "x" + ".a" * 9
        for place in ("if(#, 1, 1)", "if(1, #, 1)", "if(1, 1, #)", "1 + #", "# + 1", "1 < #", "f(1, #)", "f(#, 1)",
                      "{a: 1, b: #}", "{a: #, b: 1}", "rest(#, 1)", "#.a"):
            term_of(place.replace("#", nine))
            self.assert_bad_term(place.replace("#", ten))

    def test_depth_without_parts(self):
        for leaf in ("1", "x", "flip(1/2)", "pick(1:1, 2:1)", "f()"):
            term_of(leaf + ".a" * 9)
            self.assert_bad_term(leaf + ".a" * 10)
        term_of("f(" * 9 + "f()" + ")" * 9)
        term_of("(((((((((x)))))))))" + ".a" * 9)

    def test_depth_in_each_kind_of_row(self):
        for ahead in ("def f(x) = ", "let x = ", "again 2 x = ", "see "):
            row_of(ahead + "x" + ".a" * 9)
            self.assert_bad_row(ahead + "x" + ".a" * 10)

    def test_sixty_and_sixty_one_parts(self):
        picks = "ask " + SIX_PAIRS + "*" + SIX_PAIRS
        five_pairs = "pick(0:1,1:1,2:1,3:1,4:1)"
        for text, many in [
            (picks, 54),
            (picks + "+1+1", 58),
            ("ask " + five_pairs + "*" + SIX_PAIRS + "+flip(1/2)+1", 59),
            (picks + "+1+1+1", 60),
            (picks + "+(1)-1", 60),
            (picks + "+flip(1/2)", 61),
            (picks + "+1+1+1.a", 62),
            (picks + "+f()+1+1", 62),
        ]:
            self.assertEqual(len(words_of(text)), many)
            if many <= 60:
                read(text)
                read("see 1\n" + text)
            else:
                self.assert_bad(text, 0)
                self.assert_bad("see 1\n" + text, 1)

    def test_blanks_are_no_parts(self):
        text = "ask " + SIX_PAIRS + "*" + SIX_PAIRS + "+1+1+1"
        self.assertEqual(read("   " + text.replace(",", "  ,  ")), read(text))

    def test_a_thousand_and_a_thousand_and_one_signs(self):
        for text in ("ask" + " " * 996 + "1", " " * 995 + "ask 1", "ask 1" + " " * 995):
            self.assertEqual(len(text), 1000)
            self.assertEqual(read(text), [("ask", ONE)])
            self.assertEqual(read("see 1\n" + text)[1], ("ask", ONE))
            self.assert_bad(text + " ")
            self.assert_bad(" " + text)
            self.assert_bad("see 1\n" + text + " ", 1)
        self.assert_bad(" " * 100000)

    def test_rows_are_measured_one_by_one(self):
        row = "see" + " " * 996 + "1"
        self.assertEqual(len(read("\n".join([row] * 39 + ["ask 1"]))), 40)


class TestTold(ReaderCase):
    def test_each_told_list_is_a_new_one(self):
        text = "let x = 1\nask x"
        first = read(text)
        first.append(("ask", ONE))
        first[0] = ("see", ONE)
        self.assertEqual(read(text), [("let", "x", ONE), ("ask", X)])

    def test_argument_name(self):
        self.assertEqual(read(text="ask 1"), [("ask", ONE)])


if __name__ == "__main__":
    unittest.main()
