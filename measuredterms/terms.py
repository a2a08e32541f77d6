"""Core texts taken apart into terms."""

from measuredterms.refusals import NotCore
from measuredterms.texts import DIGITS, LONGEST_WORD, SMALL_LETTERS
from measuredterms.texts import is_name, measure_factors, number_end, term_fraction, word_end

LONGEST_CORE_TEXT = 2000
MOST_NODES = 300
DEEPEST_NODE = 40
LONE_SIGNS = "()+-*/^<="
# What stands in each form, in order: x a name, a a part, n the power. () is the form without a word.
FORMS = {
    "fn": "xa", "rec": "xxa", "let": "xaa", "if": "aaa", "pair": "aa", "fst": "a", "snd": "a",
    "cons": "aa", "case": "aaxxa", "fold": "aaa", "floor": "aa", "rest": "aa", "root": "a",
    "+": "aa", "-": "aa", "*": "aa", "/": "aa", "<": "aa", "=": "aa", "^": "an", "()": "aa",
}


class Token:
    """A word, a sign or a number with its text; meaning is a number's fraction, None of the others."""

    def __init__(self, text, meaning, measure):
        self.text = text
        self.meaning = meaning
        self.measure = measure


class Node:
    """A term. Its kind is a word or sign of FORMS, or name, number, true, false, nil.

    content is a name's text, a number's token, or the power of ^.
    """

    def __init__(self, kind, names, parts, content):
        self.kind = kind
        self.names = names
        self.parts = parts
        self.content = content


def term_of(text):
    """The term that the text is a core text of."""
    if len(text) > LONGEST_CORE_TEXT:
        raise NotCore()
    reader = TermReader(tokens_of(text))
    term = reader.read_term(1)
    if not reader.is_done():
        raise NotCore()
    return term


def tokens_of(text):
    tokens = []
    place = 0
    while place < len(text):
        if text[place] == " ":
            place += 1
        else:
            token, place = token_at(text, place)
            tokens.append(token)
    return tokens


def token_at(text, start):
    """The token that begins there, and where it ends."""
    sign = text[start]
    if sign in SMALL_LETTERS:
        return word_at(text, start)
    if sign in DIGITS:
        return number_at(text, start, start)
    if sign == "-" and start + 1 < len(text) and text[start + 1] in DIGITS:
        return number_at(text, start, start + 1)
    if sign in LONE_SIGNS:
        return (Token(sign, None, None), start + 1)
    raise NotCore()


def word_at(text, start):
    end = word_end(text, start)
    if end - start > LONGEST_WORD:
        raise NotCore()
    return (Token(text[start:end], None, None), end)


def number_at(text, start, first_digit):
    end = number_end(text, first_digit)
    fraction = term_fraction(text[first_digit:end])
    if fraction is None:
        raise NotCore()
    top, bottom = fraction
    if first_digit > start:
        top = -top
    measure, behind = measure_at(text, end)
    return (Token(text[start:end], (top, bottom), measure), behind)


def measure_at(text, start):
    """The measure of the number that ends there, None if it has none, and where the measure ends."""
    if start == len(text) or text[start] != "[":
        return (None, start)
    end = text.find("]", start)
    if end < 0:
        raise NotCore()
    measure = measure_factors(text[start + 1:end])
    if measure is None:
        raise NotCore()
    return (measure, end + 1)


class TermReader:
    def __init__(self, tokens):
        self.tokens = tokens
        self.place = 0
        self.nodes = 0

    def is_done(self):
        return self.place == len(self.tokens)

    def coming(self):
        if self.is_done():
            raise NotCore()
        return self.tokens[self.place]

    def take(self):
        token = self.coming()
        self.place += 1
        return token

    def read_term(self, depth):
        self.nodes += 1
        if depth > DEEPEST_NODE or self.nodes > MOST_NODES:
            raise NotCore()
        token = self.take()
        if token.meaning is not None:
            return Node("number", (), (), token)
        if token.text == "(":
            return self.read_form(depth)
        if token.text in ("true", "false", "nil"):
            return Node(token.text, (), (), None)
        return Node("name", (), (), checked_name(token))

    def read_form(self, depth):
        kind = "()"
        if self.coming().text in FORMS:
            kind = self.take().text
        names = []
        parts = []
        content = None
        for place in FORMS[kind]:
            if place == "x":
                names.append(checked_name(self.take()))
            elif place == "a":
                parts.append(self.read_term(depth + 1))
            else:
                content = checked_exponent(self.take())
        if self.take().text != ")":
            raise NotCore()
        return Node(kind, tuple(names), tuple(parts), content)


def checked_name(token):
    if not is_name(token.text):
        raise NotCore()
    return token.text


def checked_exponent(token):
    if token.meaning is None or token.measure is not None:
        raise NotCore()
    digits = token.text[1:] if token.text.startswith("-") else token.text
    if len(digits) != 1:
        raise NotCore()
    return int(token.text)
