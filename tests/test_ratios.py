"""Whole numbers and fractions, against Python's own."""

import math
import random
import unittest
from fractions import Fraction

from measuredterms.ratios import lowest, power, whole_root


class RatioTest(unittest.TestCase):
    def test_powers(self):
        for number in [-3, -1, 0, 1, 2, 10, 10 ** 30]:
            for exponent in list(range(20)) + [99]:
                self.assertEqual(power(number, exponent), number ** exponent)

    def test_whole_roots(self):
        source = random.Random(1)
        numbers = list(range(2000)) + [source.getrandbits(bits) for bits in range(1, 3000, 7)]
        numbers += [number + more for number in [source.getrandbits(300) ** 2 for k in range(200)] for more in (-1, 0, 1)]
        for number in numbers:
            self.assertEqual(whole_root(number), math.isqrt(number))

    def check_lowest(self, top, bottom, bound):
        exact = Fraction(top, bottom)
        fits = exact.numerator < bound and exact.denominator < bound
        self.assertEqual(lowest(top, bottom, bound), (exact.numerator, exact.denominator) if fits else None)

    def test_lowest_terms_of_small_fractions(self):
        for top in range(0, 60):
            for bottom in range(1, 60):
                for bound in [2, 3, 7, 10, 31, 1000]:
                    self.check_lowest(top, bottom, bound)

    def test_lowest_terms_of_long_fractions(self):
        source = random.Random(2)
        for k in range(3000):
            bound = source.choice([2, 10, 10 ** 6, 10 ** 12, 10 ** 40])
            reach = bound.bit_length()
            top = source.getrandbits(source.randint(1, reach + 1))
            bottom = source.getrandbits(source.randint(1, reach + 1)) + 1
            common = source.getrandbits(source.choice([1, 10, reach, 3 * reach, 4000])) + 1
            self.check_lowest(top * common, bottom * common, bound)
            # Ever so little beside such a fraction.
            self.check_lowest(top * common + 1, bottom * common, bound)
            self.check_lowest(top * common, bottom * common + 1, bound)

    def test_lowest_terms_at_the_bound(self):
        bound = 10 ** 12
        common = 7 ** 500
        for top in [1, bound - 1, bound, bound + 1]:
            for bottom in [1, bound - 1, bound - 2, bound, bound + 1]:
                self.check_lowest(top * common, bottom * common, bound)


if __name__ == "__main__":
    unittest.main()
