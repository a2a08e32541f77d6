"""How tests write calls and read answers."""

import unittest

from measuredterms.world import answers

TAKEN_WORDS = ("fn let rec if cons case pair fst snd fold root floor rest true false nil truth num list base unit def fun "
               "in then else match with and or not").split()
# A function that calls itself as often as the number says that it is given.
COUNTED = "(rec f x (if (= x 0) 7 (f (- x 1))))"
# Each gives 10 to that power.
TEN_TO_99 = "(^ 100000000000 9)"
TEN_TO_891 = f"(^ {TEN_TO_99} 9)"
TEN_TO_999 = f"(* {TEN_TO_891} (* {TEN_TO_99} 1000000000))"


def row(text):
    """A text's bytes with their count ahead; a list is taken as the bytes themselves."""
    numbers = [ord(sign) for sign in text] if isinstance(text, str) else list(text)
    return [len(numbers)] + numbers


def base(name):
    return [0] + row(name)


def unit(name, quantity):
    return [1] + row(name) + row(quantity)


def world(name, factor):
    return [2] + row(name) + row(factor)


def run(budget, term):
    return [3, budget] + row(term)


def cost(budget, term):
    return [4, budget] + row(term)


def hold(budget, name, term):
    return [5, budget] + row(name) + row(term)


def held(name):
    return [6] + row(name)


def clear():
    return [7]


def joined(*calls):
    return [number for call in calls for number in call]


def split_answers(numbers):
    found = []
    place = 0
    while place < len(numbers):
        end = place + 1 + numbers[place]
        found.append(numbers[place + 1:end])
        place = end
    return found


def told(call, answer):
    """A lone number as that number, a cost as a tuple, a 0 and bytes as the text of the bytes."""
    if len(answer) == 1:
        return answer[0]
    if call[0] == 4:
        return tuple(answer)
    if answer[0] != 0 or call[0] not in (3, 6):
        raise AssertionError(f"not an answer: {answer}")
    return "".join(chr(byte) for byte in answer[1:])


def ask(*calls):
    """What each of the calls is answered on one new object."""
    found = split_answers(answers(joined(*calls)))
    return [told(call, answer) for call, answer in zip(calls, found, strict=True)]


def last(*calls):
    return ask(*calls)[-1]


def value(term, budget=1000, before=()):
    """What a run of the term is answered, behind the calls before it."""
    return last(*before, run(budget, term))


def weighing(weight):
    """A term that gives 1 with that weight."""
    if weight <= 9:
        return f"(^ 1 {weight})"
    if weight % 9 == 0:
        return f"(^ {weighing(weight // 9)} 9)"
    return f"(* {weighing(weight - 1)} 1)"


def list_term(parts):
    term = "nil"
    for part in reversed(parts):
        term = f"(cons {part} {term})"
    return term


def plain_holds(count):
    """So many values held, under the names h0, h1 and so on."""
    return [hold(0, f"h{k}", str(k)) for k in range(count)]


class TermCase(unittest.TestCase):
    call = staticmethod(run)

    def check(self, rows, budget=1000, before=()):
        """Each of the rows is a term and what the call with it is answered."""
        for term, answer in rows:
            with self.subTest(term):
                self.assertEqual(last(*before, self.call(budget, term)), answer)
