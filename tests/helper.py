"""How tests write calls and read answers."""

import unittest

from measuredterms.world import answers


def row(text):
    """A text's bytes with their count ahead; a list is taken as the bytes themselves."""
    numbers = [ord(sign) for sign in text] if isinstance(text, str) else list(text)
    return [len(numbers)] + numbers


def base(name):
    return [0] + row(name)


def unit(name, quantity):
    return [1] + row(name) + row(quantity)


def world(name, factor):
    return [2] + row(name) + row(factor)


def run(budget, term):
    return [3, budget] + row(term)


def clear():
    return [7]


def split_answers(numbers):
    found = []
    place = 0
    while place < len(numbers):
        end = place + 1 + numbers[place]
        found.append(numbers[place + 1:end])
        place = end
    return found


def told(answer):
    """A lone number as that number, a 0 and bytes as the text of the bytes."""
    if len(answer) == 1:
        return answer[0]
    if answer[0] != 0:
        raise AssertionError(f"not an answer: {answer}")
    return "".join(chr(byte) for byte in answer[1:])


def ask(*calls):
    """What each of the calls is answered on one new object."""
    numbers = answers([number for call in calls for number in call])
    return [told(answer) for answer in split_answers(numbers)]


def last(*calls):
    return ask(*calls)[-1]


def value(term, budget=1000, before=()):
    """What a run of the term is answered, behind the calls before it."""
    return last(*before, run(budget, term))


def weighing(weight):
    """A term that gives 1 with that weight."""
    if weight <= 9:
        return f"(^ 1 {weight})"
    if weight % 9 == 0:
        return f"(^ {weighing(weight // 9)} 9)"
    return f"(* {weighing(weight - 1)} 1)"


def list_term(parts):
    term = "nil"
    for part in reversed(parts):
        term = f"(cons {part} {term})"
    return term


class TermCase(unittest.TestCase):
    def check(self, rows, budget=1000, before=()):
        """Each of the rows is a term and what a run of it is answered."""
        for term, answer in rows:
            with self.subTest(term):
                self.assertEqual(value(term, budget, before), answer)
