"""The errors that end reading, working out and telling."""


class Unreadable(Exception):
    """A budget or a term that reading refuses; number is what the call answers."""

    def __init__(self, number):
        Exception.__init__(self)
        self.number = number


class BadBudget(Unreadable):
    def __init__(self):
        Unreadable.__init__(self, -1)


class NotCore(Unreadable):
    def __init__(self):
        Unreadable.__init__(self, -4)


class FreeName(Unreadable):
    def __init__(self):
        Unreadable.__init__(self, -5)


class UnknownMeasure(Unreadable):
    def __init__(self):
        Unreadable.__init__(self, -6)


class TooFar(Unreadable):
    def __init__(self):
        Unreadable.__init__(self, -7)


class Refused(Exception):
    """A term that gives no value; number is what the call answers."""

    def __init__(self, number):
        Exception.__init__(self)
        self.number = number


class DividedByZero(Refused):
    def __init__(self):
        Refused.__init__(self, 1)


class NoRoot(Refused):
    def __init__(self):
        Refused.__init__(self, 2)


class TooHeavy(Refused):
    def __init__(self):
        Refused.__init__(self, 3)


class NoCallLeft(Refused):
    def __init__(self):
        Refused.__init__(self, 4)


class TooDeep(Refused):
    def __init__(self):
        Refused.__init__(self, 5)


class WrongSort(Refused):
    def __init__(self):
        Refused.__init__(self, 6)


class TooLong(Exception):
    """A value that is too long to tell."""
