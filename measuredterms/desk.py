"""The object that calls are made on."""

from measuredterms.measures import MOST_FACTORS, Book
from measuredterms.refusals import BadBudget, Ended, Refused, TooFar, TooLong, UnknownMeasure
from measuredterms.showing import value_text
from measuredterms.terms import term_of
from measuredterms.texts import bytes_of, factor_fraction, is_measure_name, is_name, measure_factors, quantity_fraction
from measuredterms.working import Builder, Run, worked_out

MOST_CALLS = 1000
MOST_KEPT = 40
LONGEST_QUANTITY = 500


class Desk:
    """The book of measures with the world's factors, and the values that are held (kept)."""

    def __init__(self):
        self.book = Book()
        self.kept = {}

    def base(self, name):
        if not is_measure_name(name):
            return [-1]
        if self.book.has(name):
            return [-2]
        if self.book.takes_no_base():
            return [-3]
        self.book.add_base(name)
        return [0]

    def unit(self, name, quantity):
        if not is_measure_name(name):
            return [-1]
        if self.book.has(name):
            return [-2]
        if self.book.is_full():
            return [-3]
        number, measure = quantity_of(quantity)
        if number is None or measure is None:
            return [-4]
        if number[0] <= 0:
            return [-6]
        try:
            worth = self.book.worth_of(number, measure)
        except UnknownMeasure:
            return [-5]
        except TooFar:
            return [-7]
        self.book.add_unit(name, worth)
        return [0]

    def world(self, name, factor):
        if not self.book.has_base(name):
            return [-8]
        fraction = factor_fraction(factor)
        if fraction is None:
            return [-4]
        if len(self.kept) > 0:
            return [-9]
        self.book.set_factor(name, fraction)
        return [0]

    def run(self, budget, text):
        try:
            return shown(worked_out(self.read(budget, text), Run(budget)))
        except Ended as end:
            return [end.number]

    def cost(self, budget, text):
        run = Run(budget)
        try:
            worked_out(self.read(budget, text), run)
        except Refused as refusal:
            return [refusal.number, budget - run.left]
        except Ended as end:
            return [end.number]
        return [0, budget - run.left]

    def hold(self, budget, name, text):
        if not is_name(name):
            return [-11]
        if name in self.kept:
            return [-2]
        if len(self.kept) >= MOST_KEPT:
            return [-3]
        try:
            self.kept[name] = worked_out(self.read(budget, text), Run(budget))
        except Ended as end:
            return [end.number]
        return [0]

    def held(self, name):
        if name not in self.kept:
            return [-8]
        try:
            return shown(self.kept[name])
        except TooLong as end:
            return [end.number]

    def clear(self):
        self.kept = {}
        return [0]

    def read(self, budget, text):
        """The term of the text, made ready to be worked out among the held values."""
        if not 0 <= budget <= MOST_CALLS:
            raise BadBudget()
        return Builder(self.book, self.kept).build(term_of(text), (), 0)


def shown(value):
    return [0] + bytes_of(value_text(value))


def quantity_of(text):
    """The number and the measure of a unit's text; one of the two is None if it isn't of that form."""
    if len(text) > LONGEST_QUANTITY:
        return (None, None)
    number = (1, 1)
    written = text
    if " " in text:
        before, blank, written = text.partition(" ")
        number = quantity_fraction(before)
    measure = measure_factors(written)
    if measure is not None and len(measure) > MOST_FACTORS:
        return (number, None)
    return (number, measure)
