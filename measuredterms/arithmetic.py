"""What can be done with numbers. Dividing by 0 is refused ahead of too much weight."""

from measuredterms.ratios import power, whole_root
from measuredterms.refusals import DividedByZero, NoRoot, TooHeavy
from measuredterms.values import Number

MOST_WEIGHT = 200


def checked_weight(weight):
    if weight > MOST_WEIGHT:
        raise TooHeavy()
    return weight


def weight_over(a, b):
    """The weight of what comes of dividing a by b."""
    if b.top == 0:
        raise DividedByZero()
    return checked_weight(a.weight + b.weight)


def fraction_number(top, bottom, weight):
    """The number top / bottom, where bottom may be below 0."""
    if bottom < 0:
        return Number(-top, -bottom, weight)
    return Number(top, bottom, weight)


def common_tops(a, b):
    """What stands above if a and b are written over their common bottom."""
    if a.bottom == b.bottom:
        return (a.top, b.top)
    return (a.top * b.bottom, b.top * a.bottom)


def common_bottom(a, b):
    if a.bottom == b.bottom:
        return a.bottom
    return a.bottom * b.bottom


def added(a, b):
    weight = checked_weight(a.weight + b.weight)
    first, second = common_tops(a, b)
    return Number(first + second, common_bottom(a, b), weight)


def subtracted(a, b):
    weight = checked_weight(a.weight + b.weight)
    first, second = common_tops(a, b)
    return Number(first - second, common_bottom(a, b), weight)


def multiplied(a, b):
    weight = checked_weight(a.weight + b.weight)
    return Number(a.top * b.top, a.bottom * b.bottom, weight)


def divided(a, b):
    weight = weight_over(a, b)
    first, second = common_tops(a, b)
    return fraction_number(first, second, weight)


def floored(a, b):
    weight = weight_over(a, b)
    first, second = common_tops(a, b)
    return Number(first // second, 1, weight)


def rest_of(a, b):
    weight = weight_over(a, b)
    first, second = common_tops(a, b)
    return Number(first % second, common_bottom(a, b), weight)


def raised(a, exponent):
    if exponent < 0 and a.top == 0:
        raise DividedByZero()
    size = abs(exponent)
    weight = checked_weight(max(1, a.weight * size))
    top = power(a.top, size)
    bottom = power(a.bottom, size)
    if exponent < 0:
        return fraction_number(bottom, top, weight)
    return Number(top, bottom, weight)


def root_of(a):
    if a.top < 0:
        raise NoRoot()
    # top / bottom is a square just if top * bottom is one, in lowest terms or not.
    square = a.top * a.bottom
    root = whole_root(square)
    if root * root != square:
        raise NoRoot()
    return Number(root, a.bottom, a.weight)


def is_below(a, b):
    first, second = common_tops(a, b)
    return first < second


def is_same(a, b):
    first, second = common_tops(a, b)
    return first == second
