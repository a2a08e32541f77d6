"""The document's words written down a second time, slowly and plainly, to compare answers with."""

import re
from fractions import Fraction

TAKEN = ("fn let rec if cons case pair fst snd fold root floor rest true false nil truth num list base unit def fun "
         "in then else match with and or not").split()
WORD = re.compile(r"[a-z][a-z0-9_]*\Z")
TOKEN = re.compile(r"([a-z][a-z0-9_]*)|(-?)([0-9]+(?:[/.][0-9]+)?)(\[[^\]]*\])?|([()+*/^<=-])")
FACTOR = r"(?:1|[a-z][a-z0-9_]{0,11}(?:\^-?[0-9]{1,2})?)"
MEASURE = re.compile(rf"{FACTOR}(?:[./]{FACTOR})*\Z")
QUANTITY_NUMBER = re.compile(r"-?[0-9]+([/.][0-9]+)?\Z")
SHAPES = {"fn": "xa", "rec": "xxa", "let": "xaa", "if": "aaa", "pair": "aa", "fst": "a", "snd": "a", "cons": "aa",
          "case": "aaxxa", "fold": "aaa", "floor": "aa", "rest": "aa", "root": "a", "+": "aa", "-": "aa", "*": "aa",
          "/": "aa", "^": "an", "<": "aa", "=": "aa"}


class Stop(Exception):
    def __init__(self, number):
        super().__init__(number)
        self.number = number


def is_measure_name(text):
    return WORD.match(text) is not None and len(text) <= 12


def is_name(text):
    return is_measure_name(text) and text not in TAKEN


def fraction_of(text):
    if "/" in text:
        top, bottom = text.split("/")
        return None if int(bottom) == 0 else Fraction(int(top), int(bottom))
    return Fraction(text)


def factors_of(text):
    """None if it is no measure text."""
    if MEASURE.match(text) is None:
        return None
    found = []
    for sign, name, power in re.findall(r"([./]?)([a-z0-9_]+)(?:\^(-?[0-9]+))?", text):
        size = int(power or "1")
        found.append((None, 0) if name == "1" else (name, -size if sign == "/" else size))
    return found


class Model:
    def __init__(self):
        self.bases = {}
        self.units = {}
        self.values = {}

    def base(self, name):
        if not is_measure_name(name):
            return -1
        if name in self.bases or name in self.units:
            return -2
        if len(self.bases) == 8 or len(self.bases) + len(self.units) == 40:
            return -3
        self.bases[name] = Fraction(1)
        return 0

    def unit(self, name, quantity):
        if not is_measure_name(name):
            return -1
        if name in self.bases or name in self.units:
            return -2
        if len(self.bases) + len(self.units) == 40:
            return -3
        number, blank, measure = quantity.rpartition(" ")
        factors = factors_of(measure)
        if len(quantity) > 500 or factors is None or len(factors) > 20:
            return -4
        ratio = Fraction(1)
        if blank:
            if QUANTITY_NUMBER.match(number) is None or len(number) > 90:
                return -4
            ratio = fraction_of(number)
            if ratio is None or abs(ratio.numerator) >= 10 ** 40 or ratio.denominator >= 10 ** 40:
                return -4
        if ratio <= 0:
            return -6
        if any(key is not None and key not in self.bases and key not in self.units for key, power in factors):
            return -5
        worth = self.worth(ratio, factors)
        if worth is None:
            return -7
        self.units[name] = worth
        return 0

    def worth(self, ratio, factors):
        powers = {}
        for name, power in factors:
            if name is not None:
                part, ratios = ({name: 1}, Fraction(1)) if name in self.bases else self.units[name]
                ratio *= ratios ** power
                for key in part:
                    powers[key] = powers.get(key, 0) + power * part[key]
        if ratio.numerator >= 10 ** 40 or ratio.denominator >= 10 ** 40 or any(abs(power) > 99 for power in powers.values()):
            return None
        return (powers, ratio)

    def world(self, name, factor):
        if name not in self.bases:
            return -8
        if re.match(r"[0-9]{1,6}(/[0-9]{1,6})?\Z", factor) is None:
            return -4
        fraction = fraction_of(factor)
        if fraction is None or fraction == 0:
            return -4
        if self.values:
            return -9
        self.bases[name] = fraction
        return 0

    def clear(self):
        self.values = {}
        return 0

    def run(self, budget, text):
        try:
            return shown(self.given(budget, text, [budget]))
        except Stop as stop:
            return stop.number

    def cost(self, budget, text):
        calls = [budget]
        ending = 0
        try:
            self.given(budget, text, calls)
        except Stop as stop:
            ending = stop.number
        return ending if ending < 0 else (ending, budget - calls[0])

    def hold(self, budget, name, text):
        if not is_name(name):
            return -11
        if name in self.values:
            return -2
        if len(self.values) == 40:
            return -3
        try:
            self.values[name] = self.given(budget, text, [budget])
        except Stop as stop:
            return stop.number
        return 0

    def held(self, name):
        if name not in self.values:
            return -8
        try:
            return shown(self.values[name])
        except Stop as stop:
            return stop.number

    def given(self, budget, text, calls):
        return self.work(self.read(budget, text), dict(self.values), 1, calls)

    def read(self, budget, text):
        if budget < 0 or budget > 1000:
            raise Stop(-1)
        if len(text) > 2000:
            raise Stop(-4)
        tokens = tokens_of(text)
        term, behind = parse(tokens, 0)
        if behind != len(tokens) or len(list(nodes_of(term, 1))) > 300 or max(depth for node, depth in nodes_of(term, 1)) > 40:
            raise Stop(-4)
        self.look_over(term, set(self.values))
        return term

    def look_over(self, term, names):
        kind, bound, parts, more = term
        if kind == "name" and more not in names:
            raise Stop(-5)
        if kind == "number" and more[1] is not None:
            factors = more[1]
            if any(key is not None and key not in self.bases and key not in self.units for key, power in factors):
                raise Stop(-6)
            if len(factors) > 20 or self.worth(Fraction(1), factors) is None:
                raise Stop(-7)
        for k, part in enumerate(parts):
            binds = kind in ("fn", "rec") or (kind == "let" and k == 1) or (kind == "case" and k == 2)
            self.look_over(part, names | set(bound) if binds else names)

    def number(self, meaning, factors):
        if factors is None:
            return meaning
        powers, ratio = self.worth(Fraction(1), factors)
        for name in powers:
            ratio *= self.bases[name] ** powers[name]
        return meaning * ratio

    def work(self, term, names, depth, calls):
        kind, bound, parts, more = term

        def part(k, extra=()):
            return self.work(parts[k], {**names, **dict(extra)}, depth + 1, calls)
        if kind == "name":
            return names[more]
        if kind == "number":
            return ("number", self.number(*more), 1)
        if kind in ("true", "false"):
            return ("truth", kind == "true")
        if kind == "nil":
            return ("list", [])
        if kind in ("fn", "rec"):
            return ("function", bound, parts[0], names)
        if kind == "let":
            return part(1, [(bound[0], part(0))])
        if kind == "if":
            return part(1) if self.sort(part(0), "truth")[1] else part(2)
        if kind == "call":
            function = part(0)
            return self.call(function, part(1), depth, calls)
        if kind == "pair":
            first = part(0)
            return ("pair", first, part(1))
        if kind in ("fst", "snd"):
            return self.sort(part(0), "pair")[1 if kind == "fst" else 2]
        if kind == "cons":
            first = part(0)
            return ("list", [first] + self.sort(part(1), "list")[1])
        if kind == "case":
            found = self.sort(part(0), "list")[1]
            return part(2, [(bound[0], found[0]), (bound[1], ("list", found[1:]))]) if found else part(1)
        if kind == "fold":
            function = part(0)
            result = part(1)
            for element in self.sort(part(2), "list")[1]:
                result = self.call(self.call(function, result, depth, calls), element, depth, calls)
            return result
        if kind == "^":
            return raised(self.sort(part(0), "number"), more)
        if kind == "root":
            return root(self.sort(part(0), "number"))
        first = part(0)
        second = part(1)
        return of_two(kind, self.sort(first, "number"), self.sort(second, "number"))

    def sort(self, value, wanted):
        if value[0] != wanted:
            raise Stop(6)
        return value

    def call(self, function, value, depth, calls):
        self.sort(function, "function")
        if depth > 160:
            raise Stop(5)
        if calls[0] == 0:
            raise Stop(4)
        calls[0] -= 1
        kind, bound, body, names = function
        inside = dict(names)
        if len(bound) == 2:
            inside[bound[0]] = function
        inside[bound[-1]] = value
        return self.work(body, inside, depth + 1, calls)


def tokens_of(text):
    tokens = []
    place = 0
    while place < len(text):
        if text[place] == " ":
            place += 1
            continue
        match = TOKEN.match(text, place)
        if match is None:
            raise Stop(-4)
        word, minus, number, measure, sign = match.groups()
        if word is not None:
            if len(word) > 12:
                raise Stop(-4)
            tokens.append(("word", word))
        elif number is not None:
            tokens.append(("number", minus + number, number_of(minus, number), measure_of(measure)))
        else:
            tokens.append(("sign", sign))
        place = match.end()
    return tokens


def number_of(minus, text):
    fraction = fraction_of(text)
    if max(len(digits) for digits in re.split("[/.]", text)) > 12 or fraction is None:
        raise Stop(-4)
    if max(len(str(fraction.numerator)), len(str(fraction.denominator))) > 12:
        raise Stop(-4)
    return -fraction if minus else fraction


def measure_of(text):
    if text is None:
        return None
    factors = factors_of(text[1:-1])
    if factors is None:
        raise Stop(-4)
    return factors


def parse(tokens, place):
    if place == len(tokens):
        raise Stop(-4)
    token = tokens[place]
    if token[0] == "number":
        return (("number", [], [], (token[2], token[3])), place + 1)
    if token[0] == "word":
        if token[1] in ("true", "false", "nil"):
            return ((token[1], [], [], None), place + 1)
        if not is_name(token[1]):
            raise Stop(-4)
        return (("name", [], [], token[1]), place + 1)
    if token[1] != "(":
        raise Stop(-4)
    place += 1
    kind = "call"
    shape = "aa"
    if place < len(tokens) and tokens[place][0] != "number" and tokens[place][1] in SHAPES:
        kind = tokens[place][1]
        shape = SHAPES[kind]
        place += 1
    names, parts, more = [], [], None
    for sign in shape:
        if place == len(tokens):
            raise Stop(-4)
        if sign == "a":
            part, place = parse(tokens, place)
            parts.append(part)
            continue
        token = tokens[place]
        place += 1
        if sign == "x":
            if token[0] != "word" or not is_name(token[1]):
                raise Stop(-4)
            names.append(token[1])
        else:
            if token[0] != "number" or re.match(r"-?[0-9]\Z", token[1]) is None or token[3] is not None:
                raise Stop(-4)
            more = int(token[1])
    if place == len(tokens) or tokens[place] != ("sign", ")"):
        raise Stop(-4)
    return ((kind, names, parts, more), place + 1)


def nodes_of(term, depth):
    yield (term, depth)
    for part in term[2]:
        yield from nodes_of(part, depth + 1)


def weighed(fraction, weight):
    if weight > 200:
        raise Stop(3)
    return ("number", fraction, weight)


def of_two(kind, first, second):
    a, b = first[1], second[1]
    weight = first[2] + second[2]
    if kind == "<":
        return ("truth", a < b)
    if kind == "=":
        return ("truth", a == b)
    if kind in ("/", "floor", "rest") and b == 0:
        raise Stop(1)
    if kind == "+":
        return weighed(a + b, weight)
    if kind == "-":
        return weighed(a - b, weight)
    if kind == "*":
        return weighed(a * b, weight)
    if kind == "/":
        return weighed(a / b, weight)
    whole = (a / b).numerator // (a / b).denominator
    return weighed(Fraction(whole) if kind == "floor" else a - b * whole, weight)


def raised(number, power):
    if power < 0 and number[1] == 0:
        raise Stop(1)
    weight = max(1, number[2] * abs(power))
    if weight > 200:
        raise Stop(3)
    return weighed(number[1] ** power if power else Fraction(1), weight)


def whole_root(number):
    low, high = 0, 1
    while high * high <= number:
        high *= 2
    while high - low > 1:
        middle = (low + high) // 2
        low, high = (middle, high) if middle * middle <= number else (low, middle)
    return low


def root(number):
    fraction = number[1]
    if fraction < 0:
        raise Stop(2)
    found = Fraction(whole_root(fraction.numerator), whole_root(fraction.denominator))
    if found * found != fraction:
        raise Stop(2)
    return weighed(found, number[2])


def parts_of(value, most):
    """How many parts it has; any number above most if it has more."""
    if most < 1:
        return 1
    if value[0] == "list":
        inside = value[1]
    elif value[0] == "pair":
        inside = value[1:]
    else:
        inside = []
    found = 1
    for part in inside:
        found += parts_of(part, most - found)
        if found > most:
            return found
    return found


def shown(value):
    if parts_of(value, 2000) > 2000:
        raise Stop(-10)
    return shown_whole(value)


def shown_whole(value):
    if value[0] == "number":
        if abs(value[1].numerator) >= 10 ** 1000 or value[1].denominator >= 10 ** 1000:
            raise Stop(-10)
        return str(value[1])
    if value[0] == "truth":
        return "true" if value[1] else "false"
    if value[0] == "list":
        return "[" + ", ".join([shown_whole(part) for part in value[1]]) + "]"
    if value[0] == "pair":
        return f"({shown_whole(value[1])}, {shown_whole(value[2])})"
    return "fn"
