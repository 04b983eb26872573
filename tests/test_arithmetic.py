"""The whole numbers and whole polynomials below the calls."""

import math
import unittest
from itertools import product

from interlaced.fraction_polynomials import from_roots, is_too_large, lowest_terms
from interlaced.whole_numbers import greatest_divisor, least_multiple
from interlaced.whole_polynomials import common_divisor, exact_quotient, primitive_part, remainder_of, scaled_value


class WholeNumbers(unittest.TestCase):
    def test_greatest_divisor(self):
        for first, second in product(range(-30, 31), repeat=2):
            self.assertEqual(greatest_divisor(first, second), math.gcd(first, second))

    def test_least_multiple(self):
        for first, second in product(range(1, 40), repeat=2):
            self.assertEqual(least_multiple(first, second), first * second // math.gcd(first, second))


class WholePolynomials(unittest.TestCase):
    def test_primitive_part_keeps_signs(self):
        self.assertEqual(primitive_part([-6, 0, 9]), [-2, 0, 3])
        self.assertEqual(primitive_part([6, -9]), [2, -3])
        self.assertEqual(primitive_part([]), [])

    def test_remainder_has_the_sign_of_the_true_one(self):
        # x ** 2 at the root of the divisor is above 0, x ** 3 at -1 / 2 below 0.
        for divisor in ([1, 2], [-1, -2]):
            self.assertEqual(remainder_of([0, 0, 1], divisor), [1])
            self.assertEqual(remainder_of([0, 0, 0, 1], divisor), [-1])
        self.assertEqual(remainder_of([1, 2], [0, 0, -5]), [1, 2])
        self.assertEqual(remainder_of([-1, 0, 4], [1, -2]), [])

    def test_quotient(self):
        self.assertEqual(exact_quotient([1, -4, 4], [-1, 2]), [-1, 2])
        self.assertEqual(exact_quotient([-3, 0, 12], [1, 2]), [-3, 6])
        self.assertEqual(exact_quotient([0, 0, 5], [0, 1]), [0, 5])
        self.assertEqual(exact_quotient([0, 0, 0, 2], [1]), [0, 0, 0, 2])

    def test_scaled_value(self):
        self.assertEqual(scaled_value([1, -2, 3], 5, 7), 49 - 70 + 75)
        self.assertEqual(scaled_value([1, -2, 3], -5, 7), 49 + 70 + 75)
        self.assertEqual(scaled_value([-4], 5, 7), -4)
        self.assertEqual(scaled_value([-3, 2], 3, 2), 0)

    def test_common_divisor(self):
        self.assertEqual([abs(number) for number in common_divisor([2, -3, 1], [6, -5, 1])], [2, 1])
        self.assertEqual(len(common_divisor([2, -3, 1], [12, -7, 1])), 1)
        self.assertEqual(len(common_divisor([7], [0, 1])), 1)
        self.assertEqual(common_divisor([-2, 4], []), [-1, 2])


class Fractions(unittest.TestCase):
    def test_lowest_terms(self):
        self.assertEqual(lowest_terms(0, 12), (0, 1))
        self.assertEqual(lowest_terms(-8, 12), (-2, 3))
        self.assertEqual(lowest_terms(9, 3), (3, 1))

    def test_too_large(self):
        # A denominator of just 10 ** 30 can't be reached by the calls.
        top = 10 ** 30
        for small in ([], [(top, 1)], [(-top, 1)], [(1, top)], [(-1, top), (0, 1), (top, top - 1)]):
            self.assertFalse(is_too_large(small))
        for large in ((top + 1, 1), (-top - 1, 1), (1, top + 1), (-1, top + 1), (top + 1, top + 2)):
            self.assertTrue(is_too_large([large]))
            self.assertTrue(is_too_large([(0, 1), large, (1, 1)]))

    def test_lists_given_are_not_changed(self):
        row = [3, 1, 2]
        from_roots(row, 5)
        self.assertEqual(row, [3, 1, 2])


if __name__ == "__main__":
    unittest.main()
