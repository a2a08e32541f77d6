"""Values. A truth is True or False, and the empty list is None; the others are told here."""


class Number:
    """The fraction top / bottom, where bottom is above 0, and its weight.

    It is not kept in lowest terms: top and bottom are bounded by the weight anyhow, and lowest terms
    of long numbers would cost far more than they spare.
    """

    def __init__(self, top, bottom, weight):
        self.top = top
        self.bottom = bottom
        self.weight = weight


class Pair:
    def __init__(self, first, second):
        self.first = first
        self.second = second


class Cell:
    """A list that isn't empty: its first, and the list of the others."""

    def __init__(self, first, others):
        self.first = first
        self.others = others


class Function:
    """What its term does (work), the values around it, and whether it has a name for itself."""

    def __init__(self, work, around, knows_itself):
        self.work = work
        self.around = around
        self.knows_itself = knows_itself
