"""The object that calls are made on."""

from measuredterms.measures import MOST_FACTORS, Book
from measuredterms.refusals import BadBudget, Refused, TooFar, TooLong, UnknownMeasure, Unreadable
from measuredterms.showing import value_text
from measuredterms.terms import term_of
from measuredterms.texts import bytes_of, factor_fraction, is_measure_name, measure_factors, quantity_fraction
from measuredterms.working import Builder, Run, worked_out

MOST_CALLS = 1000
LONGEST_QUANTITY = 500


class Desk:
    """The book of measures with the world's factors, and the values that are held (kept)."""

    def __init__(self):
        self.book = Book()
        self.kept = {}

    def base(self, name):
        if not is_measure_name(name):
            return [-1]
        if self.book.has(name):
            return [-2]
        if self.book.takes_no_base():
            return [-3]
        self.book.add_base(name)
        return [0]

    def unit(self, name, quantity):
        if not is_measure_name(name):
            return [-1]
        if self.book.has(name):
            return [-2]
        if self.book.is_full():
            return [-3]
        number, measure = quantity_of(quantity)
        if number is None or measure is None:
            return [-4]
        if number[0] <= 0:
            return [-6]
        try:
            worth = self.book.worth_of(number, measure)
        except UnknownMeasure:
            return [-5]
        except TooFar:
            return [-7]
        self.book.add_unit(name, worth)
        return [0]

    def world(self, name, factor):
        if not self.book.has_base(name):
            return [-8]
        fraction = factor_fraction(factor)
        if fraction is None:
            return [-4]
        if len(self.kept) > 0:
            return [-9]
        self.book.set_factor(name, fraction)
        return [0]

    def run(self, budget, text):
        try:
            work = self.read(budget, text)
            value = worked_out(work, Run(budget))
            return [0] + bytes_of(value_text(value))
        except Unreadable as refusal:
            return [refusal.number]
        except Refused as refusal:
            return [refusal.number]
        except TooLong:
            return [-10]

    def clear(self):
        self.kept = {}
        return [0]

    def read(self, budget, text):
        """The term of the text, made ready to be worked out among the held values."""
        if not 0 <= budget <= MOST_CALLS:
            raise BadBudget()
        return Builder(self.book, self.kept).build(term_of(text), (), 0)


def quantity_of(text):
    """The number and the measure of a unit's text; one of the two is None if it isn't of that form."""
    if len(text) > LONGEST_QUANTITY:
        return (None, None)
    number = (1, 1)
    written = text
    if " " in text:
        before, blank, written = text.partition(" ")
        number = quantity_fraction(before)
    measure = measure_factors(written)
    if measure is not None and len(measure) > MOST_FACTORS:
        return (number, None)
    return (number, measure)
