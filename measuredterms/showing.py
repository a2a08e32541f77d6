"""Values told as texts."""

from measuredterms.ratios import lowest
from measuredterms.refusals import TooLong
from measuredterms.values import Cell, Number, Pair

MOST_PARTS = 2000


def digits_bound():
    """The least number of more than 1000 digits."""
    return (10 ** 50) ** 20


def number_text(number):
    fraction = lowest(abs(number.top), number.bottom, digits_bound())
    if fraction is None:
        raise TooLong()
    top, bottom = fraction
    sign = "-" if number.top < 0 else ""
    if bottom == 1:
        return f"{sign}{top}"
    return f"{sign}{top}/{bottom}"


def value_text(value):
    teller = Teller(value)
    while not teller.is_done():
        teller.tell_next()
    return teller.text_told()


class OthersOf:
    """What is still to be told of a list: all behind its beginning, and the bracket."""

    def __init__(self, cell):
        self.cell = cell


class Teller:
    """Tells a value piece by piece; what waits is told from the last to the first.

    Values may share their parts and so have far more of them than were ever made; telling ends with
    the first part that is too many.
    """

    def __init__(self, value):
        self.waiting = [value]
        self.pieces = []
        self.parts_told = 0
        self.number_texts = {}

    def is_done(self):
        return len(self.waiting) == 0

    def text_told(self):
        return "".join(self.pieces)

    def tell_next(self):
        thing = self.waiting.pop()
        if isinstance(thing, str):
            self.pieces.append(thing)
        elif isinstance(thing, OthersOf):
            self.tell_others(thing.cell)
        else:
            self.parts_told += 1
            if self.parts_told > MOST_PARTS:
                raise TooLong()
            self.tell_value(thing)

    def tell_others(self, cell):
        if cell is None:
            self.pieces.append("]")
        else:
            self.pieces.append(", ")
            self.waiting.extend([OthersOf(cell.others), cell.first])

    def tell_value(self, value):
        if isinstance(value, Number):
            self.pieces.append(self.text_of_number(value))
        elif isinstance(value, bool):
            self.pieces.append("true" if value else "false")
        elif value is None:
            self.pieces.append("[]")
        elif isinstance(value, Cell):
            self.pieces.append("[")
            self.waiting.extend([OthersOf(value.others), value.first])
        elif isinstance(value, Pair):
            self.pieces.append("(")
            self.waiting.extend([")", value.second, ", ", value.first])
        else:
            self.pieces.append("fn")

    def text_of_number(self, number):
        # Lowest terms of long numbers take long to find, and the same number may be told many times.
        key = (number.top, number.bottom)
        if key not in self.number_texts:
            self.number_texts[key] = number_text(number)
        return self.number_texts[key]
