import unittest
from fractions import Fraction

from exactstep import fraction


def small_fractions():
    return [Fraction(top, bottom) for top in range(-6, 7) for bottom in range(1, 7)]


def pair(value):
    return (value.numerator, value.denominator)


class FractionTest(unittest.TestCase):
    def test_lowest_terms_and_sign(self):
        self.assertEqual(fraction.lowest(6, 4), (3, 2))
        self.assertEqual(fraction.lowest(-6, 4), (-3, 2))
        self.assertEqual(fraction.lowest(6, -4), (-3, 2))
        self.assertEqual(fraction.lowest(0, 7), (0, 1))
        self.assertEqual(fraction.lowest(0, -7), (0, 1))

    def test_operations_are_in_lowest_terms(self):
        for first in small_fractions():
            for second in small_fractions():
                one, two = pair(first), pair(second)
                self.assertEqual(fraction.plus(one, two), pair(first + second))
                self.assertEqual(fraction.minus(one, two), pair(first - second))
                self.assertEqual(fraction.times(one, two), pair(first * second))
                if second != 0:
                    self.assertEqual(fraction.over(one, two), pair(first / second))

    def test_is_less(self):
        for first in small_fractions():
            for second in small_fractions():
                self.assertEqual(fraction.is_less(pair(first), pair(second)), first < second)

    def test_weight(self):
        self.assertEqual(fraction.weight((0, 1)), 1)
        self.assertEqual(fraction.weight((1, 1)), 2)
        self.assertEqual(fraction.weight((5, 1)), 4)
        self.assertEqual(fraction.weight((-5, 8)), 7)

    def test_quick_lowest_finds_what_may_be_told(self):
        # Neighbours in Fibonacci's row take the most divisions for their length.
        smaller, larger = 1, 1
        while smaller.bit_length() < 3050:
            smaller, larger = larger, smaller + larger
        while smaller.bit_length() + larger.bit_length() > 6100:
            smaller, larger = larger - smaller, smaller
        many = 3 ** 5000
        for top, bottom in ((smaller, larger), (larger, smaller), (-smaller, larger)):
            self.assertEqual(fraction.quick_lowest(top * many, bottom * many), (top, bottom))
        self.assertEqual(fraction.quick_lowest(0, -many), (0, 1))

    def test_quick_lowest_leaves_long_ones(self):
        smaller, larger = 1, 1
        while smaller.bit_length() < 6000:
            smaller, larger = larger, smaller + larger
        self.assertIsNone(fraction.quick_lowest(smaller, larger))

    def test_read_fractions(self):
        self.assertEqual(fraction.read_fractions([], 0), [])
        self.assertEqual(fraction.read_fractions([2, 4, 0, 9], 2), [(1, 2), (0, 1)])
        for wrong in ([1], [1, 2, 3], [1, 0], [1, -1], [1, 2, 1, 2]):
            self.assertIsNone(fraction.read_fractions(wrong, 1))


if __name__ == "__main__":
    unittest.main()
