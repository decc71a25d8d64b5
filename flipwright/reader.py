"""How a text is read to a program."""

from flipwright.errors import NoText
from flipwright.opening import parts_of
from flipwright.words import words_of

MOST_ROWS = 40
MOST_SIGNS = 1000
MOST_WORDS = 60
MOST_BRACKETS = 10
MOST_DEPTH = 10
MOST_ROUNDS = 30
MOST_LETTERS = 8
MOST_FIGURES = 12
MOST_NUMBER = 999999999999
MOST_WEIGHT = 1000000
MOST_PAIRS = 6
MOST_TERMS = 3
NO_NAMES = ("flip", "pick", "if", "rest")


class Cursor:
    def __init__(self, row, words):
        self.row = row
        self.words = words
        self.place = 0

    # No word is the empty text, so that one tells the row's end.
    def ahead(self):
        if self.place < len(self.words):
            return self.words[self.place]
        return ""

    def next_word(self):
        word = self.ahead()
        self.place += 1
        return word

    def passed(self, sign):
        if self.ahead() != sign:
            return False
        self.place += 1
        return True

    def need(self, sign):
        if not self.passed(sign):
            raise NoText(self.row)


def is_small(word):
    return 1 <= len(word) <= MOST_LETTERS and all(["a" <= sign <= "z" for sign in word])


def is_name(word):
    return is_small(word) and word not in NO_NAMES


# A word that begins with a figure is of figures alone: so rows are parted.
def is_number(word):
    return "0" <= word[:1] <= "9" and len(word) <= MOST_FIGURES and (word == "0" or word[0] != "0")


def read_name(cursor):
    word = cursor.next_word()
    if not is_name(word):
        raise NoText(cursor.row)
    return word


def read_number(cursor, least, most):
    word = cursor.next_word()
    if not is_number(word) or not least <= int(word) <= most:
        raise NoText(cursor.row)
    return int(word)


def read_list(cursor, close, most, read_one):
    if cursor.passed(close):
        return ()
    found = [read_one(cursor)]
    while cursor.passed(","):
        found.append(read_one(cursor))
    cursor.need(close)
    if len(found) > most:
        raise NoText(cursor.row)
    return tuple(found)


def refuse_alike(cursor, things):
    if len(set(things)) < len(things):
        raise NoText(cursor.row)


def read_pairs(cursor, close, read_one):
    pairs = read_list(cursor, close, MOST_PAIRS, read_one)
    if len(pairs) == 0:
        raise NoText(cursor.row)
    refuse_alike(cursor, [pair[0] for pair in pairs])
    return pairs


def read_outcome(cursor):
    number = read_number(cursor, 0, MOST_NUMBER)
    cursor.need(":")
    return (number, read_number(cursor, 1, MOST_WEIGHT))


def read_field(cursor):
    name = read_name(cursor)
    cursor.need(":")
    return (name, read_term(cursor))


def read_if(cursor):
    parts = read_list(cursor, ")", 3, read_term)
    if len(parts) < 3:
        raise NoText(cursor.row)
    return ("if", parts[0], parts[1], parts[2])


def read_flip(cursor):
    top = read_number(cursor, 1, MOST_WEIGHT)
    cursor.need("/")
    bottom = read_number(cursor, top + 1, MOST_WEIGHT)
    cursor.need(")")
    return ("flip", top, bottom)


def read_rest(cursor):
    term = read_term(cursor)
    cursor.need(",")
    number = read_number(cursor, 1, MOST_NUMBER)
    cursor.need(")")
    return ("rest", term, number)


def read_built(cursor, word):
    cursor.need("(")
    if word == "if":
        return read_if(cursor)
    if word == "flip":
        return read_flip(cursor)
    if word == "pick":
        return ("pick", read_pairs(cursor, ")", read_outcome))
    return read_rest(cursor)


def read_named(cursor, word):
    if not is_name(word):
        raise NoText(cursor.row)
    if cursor.passed("("):
        return ("call", word, read_list(cursor, ")", MOST_TERMS, read_term))
    return ("name", word)


def read_head(cursor):
    word = cursor.next_word()
    if word == "(":
        term = read_term(cursor)
        cursor.need(")")
        return term
    if word == "{":
        return ("record", read_pairs(cursor, "}", read_field))
    if word in NO_NAMES:
        return read_built(cursor, word)
    if is_number(word):
        return ("num", int(word))
    return read_named(cursor, word)


def read_tight(cursor):
    term = read_head(cursor)
    while cursor.passed("."):
        term = ("field", term, read_name(cursor))
    return term


def read_product(cursor):
    term = read_tight(cursor)
    while cursor.passed("*"):
        term = ("op", "*", term, read_tight(cursor))
    return term


def read_sum(cursor):
    term = read_product(cursor)
    while cursor.ahead() in ("+", "-"):
        sign = cursor.next_word()
        term = ("op", sign, term, read_product(cursor))
    return term


def read_term(cursor):
    term = read_sum(cursor)
    if cursor.ahead() in ("=", "<"):
        sign = cursor.next_word()
        term = ("op", sign, term, read_sum(cursor))
    return term


def read_told(cursor):
    cursor.need("=")
    return read_term(cursor)


def read_def(cursor):
    name = read_name(cursor)
    cursor.need("(")
    names = read_list(cursor, ")", MOST_TERMS, read_name)
    refuse_alike(cursor, names)
    return ("def", name, names, read_told(cursor))


def read_let(cursor):
    name = read_name(cursor)
    return ("let", name, read_told(cursor))


def read_again(cursor):
    rounds = read_number(cursor, 0, MOST_ROUNDS)
    name = read_name(cursor)
    return ("again", rounds, name, read_told(cursor))


def read_words(cursor):
    kind = cursor.next_word()
    if kind == "def":
        return read_def(cursor)
    if kind == "let":
        return read_let(cursor)
    if kind == "again":
        return read_again(cursor)
    if kind in ("see", "ask"):
        return (kind, read_term(cursor))
    raise NoText(cursor.row)


def most_brackets(words):
    deep = 0
    deepest = 0
    for word in words:
        if word in ("(", "{"):
            deep += 1
        elif word in (")", "}"):
            deep -= 1
        deepest = max(deepest, deep)
    return deepest


def depth(term):
    deepest = 0
    for part in parts_of(term):
        deepest = max(deepest, depth(part))
    return deepest + 1


# Signs that no row may have need no look of their own: each is parted as a single sign, and none has a place in a row.
def read_row(number, row):
    if len(row) > MOST_SIGNS:
        raise NoText(number)
    words = words_of(row)
    # Brackets are counted ahead of the reading, which goes as deep as they do.
    if len(words) > MOST_WORDS or most_brackets(words) > MOST_BRACKETS:
        raise NoText(number)
    cursor = Cursor(number, words)
    found = read_words(cursor)
    if cursor.ahead() != "" or depth(found[-1]) > MOST_DEPTH:
        raise NoText(number)
    return found


def read(text):
    rows = text.split("\n")
    program = []
    for number, row in enumerate(rows):
        if number == MOST_ROWS:
            raise NoText(number)
        found = read_row(number, row)
        if (found[0] == "ask") != (number == len(rows) - 1):
            raise NoText(number)
        program.append(found)
    return program
