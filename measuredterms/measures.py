"""The book of bases and units, what measures are worth by it, and the world's factors of the bases."""

from measuredterms.ratios import lowest, power
from measuredterms.refusals import TooFar, UnknownMeasure
from measuredterms.texts import RATIO_BOUND

MOST_BASES = 8
MOST_MEASURES = 40
MOST_FACTORS = 20
FARTHEST_POWER = 99


class Worth:
    """A ratio, top / bottom, and a power for each of the bases that there are or may come."""

    def __init__(self, top, bottom, powers):
        self.top = top
        self.bottom = bottom
        self.powers = powers


class Book:
    def __init__(self):
        self.bases = []
        self.factors = []
        self.worths = {}

    def has(self, name):
        return name in self.worths

    def is_full(self):
        return len(self.worths) >= MOST_MEASURES

    def takes_no_base(self):
        return len(self.bases) >= MOST_BASES or self.is_full()

    def add_base(self, name):
        powers = no_powers()
        powers[len(self.bases)] = 1
        self.bases.append(name)
        self.factors.append((1, 1))
        self.worths[name] = Worth(1, 1, powers)

    def add_unit(self, name, worth):
        self.worths[name] = worth

    def has_base(self, name):
        return name in self.bases

    def set_factor(self, name, factor):
        self.factors[self.bases.index(name)] = factor

    def worth_of(self, number, measure):
        """The worth of a number, a fraction above 0, times a measure, the list of its factors."""
        for name, exponent in measure:
            if name != "" and name not in self.worths:
                raise UnknownMeasure()
        if len(measure) > MOST_FACTORS:
            raise TooFar()
        ratio = number
        powers = no_powers()
        for name, exponent in measure:
            if name != "":
                worth = self.worths[name]
                ratio = scaled(ratio, (worth.top, worth.bottom), exponent)
                powers = [old + exponent * new for old, new in zip(powers, worth.powers)]
        return checked_worth(ratio, powers)

    def in_world(self, number, worth):
        """The fraction that a number of that worth is in the world, not in lowest terms."""
        fraction = (number[0] * worth.top, number[1] * worth.bottom)
        for factor, exponent in zip(self.factors, worth.powers):
            fraction = scaled(fraction, factor, exponent)
        return fraction


def no_powers():
    return [0] * MOST_BASES


def scaled(fraction, factor, exponent):
    """The fraction times the factor, a fraction above 0, to the exponent."""
    top, bottom = factor if exponent >= 0 else (factor[1], factor[0])
    size = abs(exponent)
    return (fraction[0] * power(top, size), fraction[1] * power(bottom, size))


def checked_worth(ratio, powers):
    found = lowest(ratio[0], ratio[1], RATIO_BOUND)
    if found is None or max([abs(exponent) for exponent in powers]) > FARTHEST_POWER:
        raise TooFar()
    return Worth(found[0], found[1], powers)
