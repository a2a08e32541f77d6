"""Terms made ready to be worked out, and worked out.

A term becomes a function of the run, the values of the names around (a tuple, in the order in which
the names were bound) and the depth of the outermost term that was begun with these. How much deeper
a part stands than that is known beforehand: it is the part's offset.
"""

from measuredterms.arithmetic import added, divided, floored, is_below, is_same, multiplied, raised
from measuredterms.arithmetic import rest_of, root_of, subtracted
from measuredterms.refusals import FreeName, NoCallLeft, TooDeep, WrongSort
from measuredterms.values import Cell, Function, Number, Pair

DEEPEST_CALL = 160


class Run:
    def __init__(self, budget):
        self.left = budget

    def call(self, function, value, depth):
        if not isinstance(function, Function):
            raise WrongSort()
        if depth > DEEPEST_CALL:
            raise TooDeep()
        if self.left == 0:
            raise NoCallLeft()
        self.left -= 1
        if function.knows_itself:
            return function.work(self, function.around + (function, value), depth + 1)
        return function.work(self, function.around + (value,), depth + 1)


class Builder:
    """Makes terms ready, their nodes in order, so that the first refusal of reading comes first."""

    def __init__(self, book, kept):
        self.book = book
        self.kept = kept

    def build(self, node, scope, offset):
        return BUILDERS[node.kind](self, node, scope, offset)

    def build_parts(self, node, scope, offset):
        return [self.build(part, scope, offset + 1) for part in node.parts]


def worked_out(work, run):
    """The value that a term of an argument, made ready, gives."""
    return work(run, (), 1)


def constant(value):
    def work(run, names, depth):
        return value
    return work


def bound_at(place):
    def work(run, names, depth):
        return names[place]
    return work


def build_name(builder, node, scope, offset):
    name = node.content
    for place in range(len(scope) - 1, -1, -1):
        if scope[place] == name:
            return bound_at(place)
    if name not in builder.kept:
        raise FreeName()
    return constant(builder.kept[name])


def build_number(builder, node, scope, offset):
    fraction = node.content.meaning
    if node.content.measure is not None:
        worth = builder.book.worth_of((1, 1), node.content.measure)
        fraction = builder.book.in_world(fraction, worth)
    return constant(Number(fraction[0], fraction[1], 1))


def build_true(builder, node, scope, offset):
    return constant(True)


def build_false(builder, node, scope, offset):
    return constant(False)


def build_nil(builder, node, scope, offset):
    return constant(None)


def build_function(builder, node, scope, offset):
    body = builder.build(node.parts[0], scope + node.names, 0)
    knows_itself = node.kind == "rec"

    def work(run, names, depth):
        return Function(body, names, knows_itself)
    return work


def build_let(builder, node, scope, offset):
    bound = builder.build(node.parts[0], scope, offset + 1)
    body = builder.build(node.parts[1], scope + node.names, offset + 1)

    def work(run, names, depth):
        return body(run, names + (bound(run, names, depth),), depth)
    return work


def build_if(builder, node, scope, offset):
    condition, chosen, other = builder.build_parts(node, scope, offset)

    def work(run, names, depth):
        truth = condition(run, names, depth)
        if truth is True:
            return chosen(run, names, depth)
        if truth is False:
            return other(run, names, depth)
        raise WrongSort()
    return work


def build_call(builder, node, scope, offset):
    function, argument = builder.build_parts(node, scope, offset)

    def work(run, names, depth):
        called = function(run, names, depth)
        return run.call(called, argument(run, names, depth), depth + offset)
    return work


def build_pair(builder, node, scope, offset):
    first, second = builder.build_parts(node, scope, offset)

    def work(run, names, depth):
        one = first(run, names, depth)
        return Pair(one, second(run, names, depth))
    return work


def build_of_pair(builder, node, scope, offset):
    part = builder.build(node.parts[0], scope, offset + 1)
    wants_first = node.kind == "fst"

    def work(run, names, depth):
        pair = part(run, names, depth)
        if not isinstance(pair, Pair):
            raise WrongSort()
        return pair.first if wants_first else pair.second
    return work


def check_list(value):
    if value is not None and not isinstance(value, Cell):
        raise WrongSort()


def build_cons(builder, node, scope, offset):
    first, others = builder.build_parts(node, scope, offset)

    def work(run, names, depth):
        one = first(run, names, depth)
        behind = others(run, names, depth)
        check_list(behind)
        return Cell(one, behind)
    return work


def build_case(builder, node, scope, offset):
    examined = builder.build(node.parts[0], scope, offset + 1)
    if_empty = builder.build(node.parts[1], scope, offset + 1)
    otherwise = builder.build(node.parts[2], scope + node.names, offset + 1)

    def work(run, names, depth):
        cell = examined(run, names, depth)
        check_list(cell)
        if cell is None:
            return if_empty(run, names, depth)
        return otherwise(run, names + (cell.first, cell.others), depth)
    return work


def build_fold(builder, node, scope, offset):
    function, beginning, folded = builder.build_parts(node, scope, offset)

    def work(run, names, depth):
        called = function(run, names, depth)
        result = beginning(run, names, depth)
        cell = folded(run, names, depth)
        check_list(cell)
        while cell is not None:
            taker = run.call(called, result, depth + offset)
            result = run.call(taker, cell.first, depth + offset)
            cell = cell.others
        return result
    return work


def build_of_two_numbers(builder, node, scope, offset):
    first, second = builder.build_parts(node, scope, offset)
    operation = OF_TWO_NUMBERS[node.kind]

    def work(run, names, depth):
        a = first(run, names, depth)
        b = second(run, names, depth)
        if not isinstance(a, Number) or not isinstance(b, Number):
            raise WrongSort()
        return operation(a, b)
    return work


def build_of_one_number(builder, node, scope, offset):
    part = builder.build(node.parts[0], scope, offset + 1)
    exponent = node.content

    def work(run, names, depth):
        number = part(run, names, depth)
        if not isinstance(number, Number):
            raise WrongSort()
        return root_of(number) if exponent is None else raised(number, exponent)
    return work


OF_TWO_NUMBERS = {
    "+": added, "-": subtracted, "*": multiplied, "/": divided,
    "floor": floored, "rest": rest_of, "<": is_below, "=": is_same,
}
BUILDERS = {
    "name": build_name, "number": build_number, "true": build_true, "false": build_false, "nil": build_nil,
    "fn": build_function, "rec": build_function, "let": build_let, "if": build_if, "()": build_call,
    "pair": build_pair, "fst": build_of_pair, "snd": build_of_pair, "cons": build_cons, "case": build_case,
    "fold": build_fold, "^": build_of_one_number, "root": build_of_one_number,
    "+": build_of_two_numbers, "-": build_of_two_numbers, "*": build_of_two_numbers, "/": build_of_two_numbers,
    "floor": build_of_two_numbers, "rest": build_of_two_numbers, "<": build_of_two_numbers, "=": build_of_two_numbers,
}
