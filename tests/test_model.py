"""Many small lists of calls, answered by the program and by the document written down a second time."""

import random
import unittest

from tests.helper import ask, base, clear, cost, held, hold, run, unit, world
from tests.model import Model

NAMES = ["x", "y", "f", "g", "l"]
MEASURES = ["m", "s", "km", "h", "in", "v"]


def compare(test, calls):
    """Each call is its name and its arguments."""
    model = Model()
    makers = {"base": base, "unit": unit, "world": world, "run": run, "cost": cost, "hold": hold, "held": held, "clear": clear}
    expected = [getattr(model, name)(*arguments) for name, arguments in calls]
    found = ask(*[makers[name](*arguments) for name, arguments in calls])
    for call, wanted, answer in zip(calls, expected, found, strict=True):
        test.assertEqual(answer, wanted, (call, calls))
    return expected


class Maker:
    """Makes texts from a row of numbers that only looks random."""

    def __init__(self, seed):
        self.source = random.Random(seed)

    def measure(self):
        factors = []
        for k in range(self.source.choice([1, 1, 1, 2, 2, 3, 21 if self.source.random() < 0.05 else 4])):
            name = self.source.choice(["m", "s", "km", "h"] * 8 + MEASURES + ["1"])
            power = self.source.choice(["", "^2", "^-1", "^3", "^0", "^-2"] * 6 + ["^99", "^50", "^-99"])
            factors.append(name if name == "1" else name + power)
        text = factors[0]
        for factor in factors[1:]:
            text += self.source.choice("./") + factor
        return text

    def number(self):
        text = self.source.choice(["0", "1", "2", "3", "7", "10", "1/2", "2/3", "0.25", "-1", "-3/2", "4", "9/4", "999999999999",
                                   "1/999999999999", "-0", "12.50"])
        if self.source.random() < 0.25:
            text += f"[{self.measure()}]"
        return text

    def leaf(self, sort, scope):
        fitting = [name for name, of in scope if of == sort or of == "any"]
        if fitting and self.source.random() < 0.7:
            return self.source.choice(fitting)
        if sort == "number":
            return self.number()
        if sort == "truth":
            return self.source.choice(["true", "false"])
        if sort == "list":
            return "nil"
        if sort == "pair":
            return f"(pair {self.number()} nil)"
        return f"(fn x {self.source.choice(['x', '1', '(+ x 1)', '(fn y (- x y))'])})"

    def term(self, sort, scope, depth):
        """A term that mostly gives a value of that sort."""
        if self.source.random() < 0.04:
            sort = self.source.choice(["number", "truth", "list", "pair", "function"])
        if depth <= 0 or self.source.random() < 0.15:
            return self.leaf(sort, scope)
        if self.source.random() < 0.5:
            return self.general(sort, scope, depth - 1)
        return self.of_sort(sort, scope, depth - 1)

    def general(self, sort, scope, depth):
        name = self.source.choice(NAMES)
        other = self.source.choice(["number", "number", "list", "truth", "function"])
        way = self.source.randrange(7)
        if way == 0:
            return f"(let {name} {self.term(other, scope, depth)} {self.term(sort, scope + [(name, other)], depth)})"
        if way == 1:
            return f"(if {self.term('truth', scope, depth)} {self.term(sort, scope, depth)} {self.term(sort, scope, depth)})"
        if way == 2:
            body = self.term(sort, scope + [(name, other)], depth - 1)
            return f"((fn {name} {body}) {self.term(other, scope, depth)})"
        if way == 3:
            rest = self.source.choice(NAMES)
            inside = scope + [(name, "number"), (rest, "list")]
            return f"(case {self.term('list', scope, depth)} {self.term(sort, scope, depth)} {name} {rest} {self.term(sort, inside, depth)})"
        if way == 4:
            inside = self.source.choice(NAMES)
            body = self.term(sort, scope + [(name, sort), (inside, "number")], depth - 1)
            return f"(fold (fn {name} (fn {inside} {body})) {self.term(sort, scope, depth)} {self.term('list', scope, depth)})"
        if way == 5:
            return f"({self.leaf('function', scope)} {self.term(other, scope, depth)})"
        return f"({self.source.choice(['fst', 'snd'])} (pair {self.term(sort, scope, depth)} {self.term(sort, scope, depth)}))"

    def of_sort(self, sort, scope, depth):
        if sort == "number":
            form = self.source.choice(["+", "-", "*", "/", "floor", "rest", "^", "root", "loop"])
            if form == "^":
                return f"(^ {self.term(sort, scope, depth)} {self.source.randint(-9, 9)})"
            if form == "root":
                inside = self.term(sort, scope, depth)
                return f"(root {self.source.choice([inside, f'(^ {inside} 2)'])})"
            if form == "loop":
                step = self.term("number", scope + [("x", "number")], depth - 2)
                return f"((rec f x (if (< x {self.number()}) (f (+ x {step})) x)) {self.number()})"
            return f"({form} {self.term(sort, scope, depth)} {self.term(sort, scope, depth)})"
        if sort == "truth":
            return f"({self.source.choice('<=')} {self.term('number', scope, depth)} {self.term('number', scope, depth)})"
        if sort == "list":
            return f"(cons {self.term(self.source.choice(['number', 'number', 'pair']), scope, depth)} {self.term(sort, scope, depth)})"
        if sort == "pair":
            return f"(pair {self.term('number', scope, depth)} {self.term('list', scope, depth)})"
        name = self.source.choice(NAMES)
        form = self.source.choice(["fn", f"rec {self.source.choice(NAMES)}"])
        return f"({form} {name} {self.term('number', scope + [(name, 'number')], depth)})"

    def spoiled(self, text):
        """The text with a few signs changed."""
        for k in range(self.source.choice([1, 1, 2, 3])):
            place = self.source.randrange(len(text) + 1)
            sign = self.source.choice(" ()[]+-*/^<=.0159axm_A?,")
            way = self.source.randrange(3)
            if way == 0:
                text = text[:place] + sign + text[place:]
            elif way == 1:
                text = text[:place] + text[place + 1:]
            else:
                text = text[:place] + sign + text[place + 1:]
        return text

    def book(self):
        calls = [("base", ("m",)), ("base", ("s",)), ("unit", ("km", "1000 m")), ("unit", ("h", "3600 s"))]
        for k in range(self.source.randrange(6)):
            name = self.source.choice(MEASURES + ["w", "u2", "Bad"])
            if self.source.random() < 0.3:
                calls.append(("base", (name,)))
            else:
                number = self.source.choice(["", "", "2 ", "1/3 ", "0.01 ", "0 ", "-1 ", "1" + "0" * 39 + " ", "5/0 ", "1/1" + "0" * 38 + " "])
                calls.append(("unit", (name, number + self.measure())))
        return calls

    def worlds(self):
        factors = ["1", "2", "1/2", "2/7", "100", "999999", "1/999999", "0", "1/0", "1234567"]
        return [("world", (self.source.choice(["m", "s", "km", "in"]), self.source.choice(factors))) for k in range(self.source.randrange(3))]

    def sort(self):
        return self.source.choice(["number", "number", "truth", "list", "pair", "function", "function"])

    def budget(self):
        return self.source.choice([0, 1, 3, 20] + [1000] * 6 + [-1 if self.source.random() < 0.2 else 1000])

    def call_with_held(self, scope):
        """A call, and the names that may be held behind it with their sorts."""
        way = self.source.randrange(20)
        if way == 0:
            return (("clear", ()), [])
        if way == 1:
            return ((self.worlds() + [("world", ("m", "3"))])[0], scope)
        if way < 6:
            return (("held", (self.source.choice(NAMES + ["a1", "b2", "let", ""]),)), scope)
        sort = self.sort()
        text = self.term(sort, scope, self.source.choice([1, 2, 3, 4]))
        if self.source.random() < 0.05:
            text = self.spoiled(text)
        if way < 14:
            name = self.source.choice(NAMES + ["a1", "b2", "fn"])
            return (("hold", (self.budget(), name, text)), scope + [(name, sort)])
        return ((self.source.choice(["run", "cost"]), (self.budget(), text)), scope)


class ModelTest(unittest.TestCase):
    def test_many_terms(self):
        endings = {}
        for seed in range(400):
            maker = Maker(seed)
            calls = maker.book()
            for k in range(6):
                calls += maker.worlds()
                text = maker.term(maker.sort(), [], maker.source.choice([1, 2, 3, 4, 5]))
                if maker.source.random() < 0.15:
                    text = maker.spoiled(text)
                calls.append(("run", (maker.source.choice([0, 1, 3, 20, 1000, 1000, 1000]), text)))
            calls.append(("clear", ()))
            for answer in compare(self, calls):
                key = answer if isinstance(answer, int) else "value"
                endings[key] = endings.get(key, 0) + 1
        for ending in ["value", 1, 2, 3, 4, 5, 6, -1, -2, -4, -5, -6, -7, -8]:
            self.assertGreater(endings.get(ending, 0), 0, (ending, endings))

    def test_many_held_values(self):
        endings = {}
        for seed in range(400):
            maker = Maker(1000 + seed)
            calls = maker.book()
            scope = []
            for k in range(25):
                call, scope = maker.call_with_held(scope)
                calls.append(call)
            for call, answer in zip(calls, compare(self, calls), strict=True):
                ending = answer[0] if isinstance(answer, tuple) else answer if isinstance(answer, int) else "value"
                endings[call[0], ending] = endings.get((call[0], ending), 0) + 1
        wanted = {"run": ["value", 1, 2, 3, 4, 5, 6, -1, -4, -5, -6, -7], "cost": [0, 1, 2, 3, 4, 5, 6, -1, -4, -5, -6, -7],
                  "hold": [0, 1, 2, 3, 4, 5, 6, -1, -2, -4, -5, -6, -7, -11], "held": ["value", -8], "world": [0, -8, -9], "clear": [0]}
        for call, ending in [(call, ending) for call in wanted for ending in wanted[call]]:
            self.assertGreater(endings.get((call, ending), 0), 0, (call, ending, endings))

    def test_many_spoiled_texts(self):
        texts = ["(+ 1[km] 1[m/s^2])", "((fn x (+ x -1/2)) 0.25)", "(case (cons 1 nil) 0 h t (^ h -2))", "(rec f x (if (< x 1) x (f (- x 1))))",
                 "(fold (fn r (fn e (* r e))) 1 nil)", "(let x 12[m^-1.s] (floor x (rest 7 2)))"]
        maker = Maker(7)
        for k in range(1500):
            compare(self, [("base", ("m",)), ("base", ("s",)), ("unit", ("km", "1000 m")), ("run", (9, maker.spoiled(maker.source.choice(texts))))])

    def test_many_spoiled_quantities(self):
        texts = ["1000 m", "1/2 m^2/s", "0.50 s^-1.m", "-3 m", "km/h", "1"]
        maker = Maker(8)
        for k in range(1500):
            compare(self, [("base", ("m",)), ("base", ("s",)), ("unit", ("km", "1000 m")), ("unit", ("h", "3600 s")),
                           ("unit", ("u", maker.spoiled(maker.source.choice(texts)))), ("run", (0, "1[u]")),
                           ("world", ("m", maker.spoiled("12/7"))), ("run", (0, "1[u.m^3]"))])


if __name__ == "__main__":
    unittest.main()
