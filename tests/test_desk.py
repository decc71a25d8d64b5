"""The desk: promises 34 and 35, and what promises 2 and 3 say of it."""

import unittest
from fractions import Fraction
from math import comb

from flipwright.bags import cost
from flipwright.desk import Desk
from flipwright.drawing import Drawer
from flipwright.errors import FlipError, Never, NoName, NoNumber, NoRow, NoText, TooMuch
from flipwright.likely import likeliest
from flipwright.opening import opened
from flipwright.reader import read
from flipwright.writer import shown
from making import made_programs, opens, table_by_rows, width

SICK = "let sick = flip(1/100)\nlet sign = if(sick, flip(9/10), flip(1/10))\nsee sign\nask sick"
NEVER = "see flip(1/2) = 2\nask 4"
GREAT = "let x = 0\nagain 30 x = x + x + flip(1/2)\nask x"
WAYS = ("plain", "graph", "bags", "left")
ONE_ROW = ["table NAME plain", "table NAME graph", "table NAME bags", "table NAME left", "likely NAME", "draw NAME 0",
           "count NAME", "left NAME", "cost NAME"]
NO_NAMES = ["", "A", "aB", "abcdefghi", "a1", "1", "a_b", "a\tb", "-", "a.", "\u00e4"]


def shown_by_hand(table):
    found = []
    for value, share in table:
        text = str(Fraction(*share))
        if isinstance(value, tuple):
            value = "{" + ",".join(field + "=" + str(number) for field, number in value) + "}"
        found.append(str(value) + ":" + text)
    return " ".join(found)


class DeskCase(unittest.TestCase):
    def setUp(self):
        self.desk = Desk()

    def keep(self, name, *rows):
        self.assertEqual(self.desk.say("keep " + name + "\n" + "\n".join(rows)), "ok")

    def assert_says(self, text, expected):
        self.assertEqual(self.desk.say(text), expected)

    def assert_no_row(self, *texts):
        for text in texts:
            with self.subTest(text):
                self.assertRaises(NoRow, self.desk.say, text)

    def assert_no_name(self, text, row=-1):
        with self.subTest(text), self.assertRaises(NoName) as caught:
            self.desk.say(text)
        self.assertEqual(caught.exception.row, row)


class TestRows(DeskCase):
    def test_each_kind(self):
        self.keep("a", SICK)
        for text in ONE_ROW:
            self.assertIsInstance(self.desk.say(text.replace("NAME", "a")), str)
        self.assert_says("drop a", "ok")

    def test_kinds_that_are_none(self):
        self.keep("a", SICK)
        self.assert_no_row("", " ", "\n", "a", "Keep a\n" + SICK, "keeps a\n" + SICK, "drops a", "tables a plain",
                           "DROP a", "drop", "table", "likely", "draw", "count", "left", "cost", "keep",
                           "keep\n" + SICK, "size a", "table a", "draw a", "ways a", "plain a", "a drop", "\ndrop a",
                           "ask 5", "let x = 1")

    def test_words_too_many_or_too_few(self):
        self.keep("a", SICK)
        for text in ONE_ROW:
            told = text.replace("NAME", "a")
            self.assert_no_row(told + " a", told + " plain", told + " 0 0", told.rpartition(" ")[0].partition(" ")[0])
        self.assert_no_row("drop a a", "table plain", "draw 0", "keep a b\n" + SICK, "keep a plain\n" + SICK,
                           "keep\na\n" + SICK, "keep\n" + SICK)

    def test_two_blanks_together(self):
        self.keep("a", SICK)
        for text in ONE_ROW + ["drop NAME"]:
            told = text.replace("NAME", "a")
            self.assert_no_row(told.replace(" ", "  "), told.replace(" ", "  ", 1))
        self.assert_no_row("keep  a\n" + SICK, "table a  plain", "draw a  0")

    def test_a_blank_at_an_end(self):
        self.keep("a", SICK)
        for text in ONE_ROW + ["drop NAME"]:
            told = text.replace("NAME", "a")
            self.assert_no_row(told + " ", " " + told, " " + told + " ")
        self.assert_no_row("keep a \n" + SICK, " keep a\n" + SICK)

    def test_words_without_signs_in_the_place_of_a_word(self):
        # Such a word is one, but no name, no WAY and no N.
        self.keep("a", SICK)
        for text in ONE_ROW + ["drop NAME", "keep NAME\n" + SICK]:
            self.assert_no_name(text.replace("NAME", "", 1))
        self.assert_no_row("table a ", "draw a ", "table  ", "draw  ")

    def test_other_signs_that_part(self):
        self.keep("a", SICK)
        self.assert_no_row("drop\ta", "table a\tplain", "count,a", "draw a\r0", "table a plain\r")
        self.assert_no_name("count a\r")
        self.assert_no_name("keep a\r\n" + SICK)

    def test_a_line_feed_where_there_is_none_to_be(self):
        self.keep("a", SICK)
        for text in ONE_ROW + ["drop NAME"]:
            told = text.replace("NAME", "a")
            self.assert_no_row(told + "\n", told + "\n" + SICK, told + "\n\n", "\n" + told, told.replace(" ", "\n", 1))

    def test_a_keep_without_a_line_feed(self):
        self.assert_no_row("keep a", "keep ", "keep A", "keep a ", "keep a ask 5")
        self.assert_no_name("count a")

    def test_what_is_no_text(self):
        for thing in (None, 5, True, b"count a", ["count a"], ("count", "a"), {"count": "a"}, 1.5, Desk()):
            self.assertRaises(NoRow, self.desk.say, thing)

    def test_ways_that_are_none(self):
        self.keep("a", SICK)
        self.assert_no_row("table a Plain", "table a plains", "table a likely", "table a PLAIN", "table a 0",
                           "table a pla", "table a plain,graph", "table a a")

    def test_numbers_that_are_none(self):
        self.keep("a", SICK)
        self.assert_no_row("draw a 00", "draw a 01", "draw a -1", "draw a +1", "draw a 1.0", "draw a x", "draw a 1_0",
                           "draw a 0x1", "draw a 1a", "draw a a1", "draw a 1e3", "draw a plain", "draw a \u00b2",
                           "draw a \u0661", "draw a " + "0" * 500, "draw a 0" + "9" * 499)

    def test_one_to_500_figures(self):
        self.keep("a", SICK)
        for number in range(9):
            self.assert_says("draw a " + str(number), "0")
        self.assert_says("draw a 99", "0")
        self.assert_says("draw a 999", "1")
        for many in (4, 5, 20, 499, 500):
            self.assertRaises(NoNumber, self.desk.say, "draw a " + "9" * many)
        for many in (501, 502, 600, 5000):
            self.assert_no_row("draw a " + "9" * many)


class TestNames(DeskCase):
    def test_names_of_1_to_8_small_letters(self):
        for name in ("a", "z", "ab", "abcdefgh", "zzzzzzzz", "keep", "drop", "table", "plain", "left", "count", "ask"):
            self.keep(name, "ask " + str(len(name)))
        for name in ("a", "z", "ab", "abcdefgh", "zzzzzzzz", "keep", "drop", "table", "plain", "left", "count", "ask"):
            self.assert_says("table " + name + " graph", str(len(name)) + ":1")

    def test_a_desks_names_are_any_small_letters(self):
        for name in ("flip", "pick", "if", "rest"):
            self.keep(name, "ask 5")
            self.assert_says("count " + name, "1")

    def test_names_that_are_none(self):
        for name in NO_NAMES:
            for text in ONE_ROW + ["drop NAME", "keep NAME\n" + SICK]:
                self.assert_no_name(text.replace("NAME", name, 1))

    def test_names_by_which_no_program_stands(self):
        self.keep("a", SICK)
        for name in ("b", "aa", "sick"):
            for text in ONE_ROW + ["drop NAME"]:
                self.assert_no_name(text.replace("NAME", name))

    def test_a_dropped_name_stands_no_longer(self):
        self.keep("a", SICK)
        self.keep("b", SICK)
        self.assert_says("drop a", "ok")
        for text in ONE_ROW + ["drop NAME"]:
            self.assert_no_name(text.replace("NAME", "a"))
        self.assert_says("table b left", "0:11/12 1:1/12")
        self.keep("a", "ask 6")
        self.assert_says("table a plain", "6:1")

    def test_each_desk_keeps_its_own(self):
        self.keep("a", SICK)
        self.assertRaises(NoName, Desk().say, "count a")

    def test_keep_over_a_name_that_stands(self):
        self.keep("a", SICK)
        self.keep("b", "ask 3")
        self.keep("a", "ask 7")
        self.assert_says("table a plain", "7:1")
        self.assert_says("table b plain", "3:1")


class TestWhichRefusalComesFirst(DeskCase):
    def test_no_row_ahead_of_no_name(self):
        self.assert_no_row("table b wrong", "table B wrong", "draw b 01", "draw B x", "count b ", "drop B\n",
                           "drop b\n", "keep B", "likely  B", "table b ", "draw b " + "1" * 501)

    def test_no_name_ahead_of_what_the_stages_refuse(self):
        for text in ("keep A\nask", "keep \nask", "keep abcdefghi\nask x", "keep A\n", "keep A\n" + GREAT):
            self.assert_no_name(text)
        self.assert_no_name("draw b " + "9" * 500)

    def test_no_text(self):
        for text, row in (("", 0), ("ask", 0), ("ask 5\n", 0), ("let x = 1\nask x)", 1), ("\nask 5", 0),
                          ("let x = 1", 0), ("let x = 1\nlet y = z\nask 1 +", 2)):
            with self.assertRaises(NoText) as caught:
                self.desk.say("keep a\n" + text)
            self.assertEqual(caught.exception.row, row)
        self.assert_no_name("count a")

    def test_names_of_the_program(self):
        self.assert_no_name("keep a\nask x", 0)
        self.assert_no_name("keep a\nlet x = 5\nask x + f(x)", 1)
        self.assert_no_name("count a")

    def test_too_much_of_opening(self):
        flips = "let x = " + " + ".join(["flip(1/2)"] * 8)
        self.assertRaises(TooMuch, self.desk.say, "keep a\n" + "\n".join([flips] * 8) + "\nask x")
        self.assert_no_name("count a")

    def test_too_much_of_the_tellers(self):
        self.keep("a", GREAT)
        for text in ONE_ROW:
            if not text.startswith("left"):
                self.assertRaises(TooMuch, self.desk.say, text.replace("NAME", "a"))
        self.assert_says("left a", "32 30")

    def test_never_of_the_tellers(self):
        self.keep("a", NEVER)
        for text in ONE_ROW:
            told = text.replace("NAME", "a")
            if text in ("left NAME", "cost NAME"):
                self.assertIsInstance(self.desk.say(told), str)
            else:
                self.assertRaises(Never, self.desk.say, told)

    def test_no_number(self):
        self.keep("a", SICK)
        self.assert_says("count a", "1080")
        self.assert_says("draw a 1079", "1")
        for number in ("1080", "1081", "9" * 500):
            self.assertRaises(NoNumber, self.desk.say, "draw a " + number)


class TestWhatIsRefusedChangesNothing(DeskCase):
    def kept(self):
        return [self.desk.say(text.replace("NAME", name)) for text in ONE_ROW for name in ("a", "b")]

    def test_all_refusals(self):
        self.keep("a", SICK)
        self.keep("b", "ask pick(3:1, 5:2)")
        self.keep("n", NEVER)
        self.keep("g", GREAT)
        before = self.kept()
        flips = "\n".join(["let x = " + " + ".join(["flip(1/2)"] * 8)] * 8) + "\nask x"
        for refusal, texts in [
                (NoRow, ["drop a ", "drop a\n", "drop  a", "keep a", "keep a b\nask 5", " keep a\nask 5", "", None]),
                (NoName, ["drop c", "drop A", "drop ", "keep A\nask 5", "keep \nask 5", "keep a\nask x", "count c",
                          "keep a\nlet x = 1\nagain 0 y = 5\nask x"]),
                (NoText, ["keep a\nask", "keep a\n", "keep b\nask 5\nask 6", "keep a\n" + SICK + "\n",
                          "keep a\n\n" + SICK]),
                (TooMuch, ["keep a\n" + flips, "table g plain", "likely g", "count g", "cost g"]),
                (Never, ["table n bags", "likely n", "draw n 0", "count n"]),
                (NoNumber, ["draw a 1080", "draw b 3"])]:
            for text in texts:
                with self.subTest(text):
                    self.assertRaises(refusal, self.desk.say, text)
                    self.assertEqual(self.kept(), before)
        self.assert_no_name("count c")


class TestAnswers(DeskCase):
    def test_the_argument_by_its_name(self):
        self.assertEqual(self.desk.say(text="keep a\nask 5"), "ok")

    def test_keep_and_drop(self):
        self.assert_says("keep a\n" + SICK, "ok")
        self.assert_says("keep a\n" + SICK, "ok")
        self.assert_says("drop a", "ok")

    def test_tables_of_numbers(self):
        self.keep("a", SICK)
        self.keep("b", "ask 999999999999")
        self.keep("c", "ask pick(10:1, 9:2, 0:3)")
        for way in WAYS:
            self.assert_says("table a " + way, "0:11/12 1:1/12")
            self.assert_says("table b " + way, "999999999999:1")
            self.assert_says("table c " + way, "0:1/2 9:1/3 10:1/6")

    def test_tables_of_records(self):
        self.keep("a", "ask if(flip(1/3), {b: flip(1/2), a: 2}, pick(5:1, 4:1))")
        self.keep("b", "ask {zz: 3, a: 10}")
        self.keep("c", "ask {a: {b: 1}}")
        for way in WAYS:
            self.assert_says("table a " + way, "4:1/3 5:1/3 {a=2,b=0}:1/6 {a=2,b=1}:1/6")
            self.assert_says("table b " + way, "{a=10,zz=3}:1")
            self.assert_says("table c " + way, "{a=0}:1")

    def test_each_way_by_its_own_teller(self):
        # The bound refuses plain, a part's bound left, the cost bags, the kept parts graph.
        sums = "again 15 x = x + flip(1/2)"
        tens = "let x = 0\nagain 9 x = x + flip(1/2)\nlet y = 0\nagain 9 y = y + flip(1/2)\nsee y\nask x"
        longer = "let x = 0\n" + "\n".join([sums] * 4) + "\nask rest(x, 2)"
        binary = "let x = 0\nagain 8 x = x + x + flip(1/2)\nask x"
        for name, text, expected in [
                ("a", "let x = 0\n" + sums + "\nask x", ["TooMuch", "ok", "ok", "TooMuch"]),
                ("b", tens, ["TooMuch", "ok", "ok", "ok"]),
                ("c", longer, ["TooMuch", "TooMuch", "TooMuch", "TooMuch"]),
                ("d", binary, ["ok", "ok", "TooMuch", "ok"]),
                ("e", binary.replace("8", "9"), ["ok", "TooMuch", "TooMuch", "ok"])]:
            self.keep(name, text)
            found = []
            for way in WAYS:
                try:
                    self.desk.say("table " + name + " " + way)
                    found.append("ok")
                except FlipError as refusal:
                    found.append(type(refusal).__name__)
            self.assertEqual(found, expected, text)

    def test_fractions_of_many_figures(self):
        self.keep("a", "let x = 1", "again 30 x = x * flip(999999/1000000)", "ask x")
        great = 10 ** 180
        self.assert_says("table a bags", "0:" + str(Fraction(great - 999999 ** 30, great)) + " 1:"
                         + str(Fraction(999999 ** 30, great)))

    def test_likely(self):
        self.keep("a", SICK)
        self.assert_says("likely a", "0 1 1 891/10000")
        self.keep("b", "let x = pick(1:1, 2:5, 3:1)", "let y = flip(1/3)", "ask x")
        self.assert_says("likely b", "1 0 10/21")
        self.keep("c", "let x = pick(4:1)", "ask x")
        self.assert_says("likely c", "0 1")

    def test_likely_without_draws(self):
        self.keep("a", "ask 5")
        self.assert_says("likely a", "1")

    def test_likely_tells_what_likeliest_does(self):
        rows = "let x = flip(1/2)\nlet y = flip(1/2)\nsee x + y = 1\nask x"
        self.keep("a", rows)
        choices, share = likeliest(opened(read(rows)))
        self.assert_says("likely a", "".join(str(index) + " " for index in choices) + "1/4")
        self.assertEqual(share, (1, 4))

    def test_draw_and_count(self):
        self.keep("a", "ask pick(9:2, 3:1, 5:1) * 10 + pick(8:1, 6:1)")
        self.assert_says("count a", "8")
        self.assertEqual([self.desk.say("draw a " + str(number)) for number in range(8)],
                         ["98", "98", "96", "96", "38", "36", "58", "56"])
        self.keep("b", "ask {b: flip(1/2), a: 1}")
        self.assertEqual([self.desk.say("draw b " + str(number)) for number in (0, 1)], ["{a=1,b=0}", "{a=1,b=1}"])
        self.keep("c", "ask 5")
        self.assert_says("count c", "1")
        self.assert_says("draw c 0", "5")

    def test_draws_of_many_figures(self):
        self.keep("a", "let x = 1", "again 30 x = x * flip(999999/1000000)", "again 30 x = x * flip(999999/1000000)",
                  "ask x")
        self.assert_says("count a", "1" + "0" * 360)
        self.assert_says("draw a " + "9" * 360, "1")
        self.assert_says("draw a 0", "0")
        self.assertRaises(NoNumber, self.desk.say, "draw a 1" + "0" * 360)

    def test_left(self):
        self.keep("a", "let x = flip(1/3)", "let y = x + flip(1/2)", "let z = flip(1/9)", "see flip(1/5)", "ask x")
        self.assert_says("left a", "3 2")
        self.keep("b", "ask 5")
        self.assert_says("left b", "1 0")
        self.keep("c", "def f(a, b) = if(a, b, pick(1:1, 2:1))", "let x = f(flip(1/2), {c: flip(1/2)}.c)",
                  "let y = flip(1/2)", "ask f(rest(x, 2), 1) + 0 * f(1, x)")
        self.assert_says("left c", "2 5")

    def test_cost(self):
        self.keep("a", SICK)
        self.assert_says("cost a", "10")
        self.keep("b", "ask 5")
        self.assert_says("cost b", "1")
        rows = ["let x = 0", "again 30 x = x + flip(1/2)", "again 30 x = x + flip(1/2)", "ask x"]
        self.keep("c", *rows)
        self.assert_says("cost c", str(sum(n * (n + 1) for n in range(1, 61)) + 61 * 61 + 61))
        self.assertRaises(TooMuch, self.desk.say, "table c bags")

    def test_long_tables(self):
        self.keep("a", "let x = 0", "again 15 x = x + flip(1/2)", "ask x")
        expected = [str(number) + ":" + str(Fraction(comb(15, number), 2 ** 15)) for number in range(16)]
        self.assert_says("table a graph", " ".join(expected))
        self.assert_says("table a bags", " ".join(expected))

    def test_made_programs(self):
        told_of = 0
        for program in made_programs(150, 3):
            if not opens(program) or width(opened(program).draws) > 200:
                continue
            one = opened(program)
            self.keep("made", shown(program))
            expected = table_by_rows(one)
            for way in WAYS:
                if expected:
                    self.assert_says("table made " + way, shown_by_hand(expected))
                else:
                    self.assertRaises(Never, self.desk.say, "table made " + way)
            self.assert_says("cost made", str(cost(one)))
            if expected:
                self.assert_says("count made", str(Drawer(one).many))
                self.assert_says("draw made 0", shown_by_hand([(Drawer(one).drawn(0)[1], (1, 1))])[:-2])
                told_of += 1
        self.assertGreater(told_of, 50)


if __name__ == "__main__":
    unittest.main()
