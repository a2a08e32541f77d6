"""The errors that end reading, working out and telling."""


class Ended(Exception):
    """A call that can't be done to its end; number is what it answers."""

    def __init__(self, number):
        Exception.__init__(self)
        self.number = number


class BadBudget(Ended):
    def __init__(self):
        Ended.__init__(self, -1)


class NotCore(Ended):
    def __init__(self):
        Ended.__init__(self, -4)


class FreeName(Ended):
    def __init__(self):
        Ended.__init__(self, -5)


class UnknownMeasure(Ended):
    def __init__(self):
        Ended.__init__(self, -6)


class TooFar(Ended):
    def __init__(self):
        Ended.__init__(self, -7)


class Refused(Ended):
    """A term that gives no value."""

    def __init__(self, number):
        Ended.__init__(self, number)


class DividedByZero(Refused):
    def __init__(self):
        Refused.__init__(self, 1)


class NoRoot(Refused):
    def __init__(self):
        Refused.__init__(self, 2)


class TooHeavy(Refused):
    def __init__(self):
        Refused.__init__(self, 3)


class NoCallLeft(Refused):
    def __init__(self):
        Refused.__init__(self, 4)


class TooDeep(Refused):
    def __init__(self):
        Refused.__init__(self, 5)


class WrongSort(Refused):
    def __init__(self):
        Refused.__init__(self, 6)


class TooLong(Ended):
    """A value that is too long to tell."""

    def __init__(self):
        Ended.__init__(self, -10)
