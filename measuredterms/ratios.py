"""Whole numbers and fractions: powers, roots and lowest terms, exact however large the numbers are."""


def power(number, exponent):
    """The number to the exponent, which is a whole number from 0 on."""
    result = 1
    while exponent > 0:
        if exponent % 2 == 1:
            result = result * number
        exponent = exponent // 2
        # The last square would not be used, and it may be the largest of all.
        if exponent > 0:
            number = number * number
    return result


def whole_root(number):
    """The greatest whole number whose square is not above the number, which is from 0 on."""
    if number == 0:
        return 0
    # Each round doubles how many leading bits of the root are right (to within one), so that only
    # the last round divides numbers of full length.
    half = (number.bit_length() - 1) // 2
    root = 1
    known = 0
    for rounds_left in range(half.bit_length() - 1, -1, -1):
        before = known
        known = half >> rounds_left
        root = (root << (known - before - 1)) + (number >> (2 * half - before - known + 1)) // root
    if root * root > number:
        return root - 1
    return root


def lowest(top, bottom, bound):
    """top / bottom in lowest terms, as a tuple; None if one of the two is then not below the bound.

    top is from 0 on, bottom is above 0 and bound above 1.
    """
    large = max(top, bottom)
    small = min(top, bottom)
    # A fraction of two numbers below the bound is told by its leading bits alone: it is the last
    # convergent below the bound of any fraction that agrees with it in so many bits. So the walk
    # is short even where top and bottom are very long, and one division proves what it found.
    spare = max(0, small.bit_length() - 2 * bound.bit_length() - 8)
    found = last_denominator(small >> spare, large >> spare, bound)
    quotient, remainder = divmod(small * found, large)
    if remainder != 0:
        return None
    if large == top:
        return (found, quotient)
    return (quotient, found)


def last_denominator(small, large, bound):
    """The denominator of the last convergent of small / large whose denominator is below the bound."""
    before = 0
    found = 1
    while small > 0:
        quotient, remainder = divmod(large, small)
        after = quotient * found + before
        if after >= bound:
            return found
        before = found
        found = after
        large = small
        small = remainder
    return found
