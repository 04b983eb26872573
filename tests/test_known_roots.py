"""The questions on polynomials of known roots, and the document's requirements as far as the calls show them."""

import random
import unittest
from itertools import product

import known_roots as k
import session as s

ZERO_TO_FOUR = range(5)


def set_to(slot, known):
    return s.set_polynomial(slot, 1, known.coefficients)


def negated(coefficients):
    return [-number for number in coefficients]


def derived(coefficients):
    return [power * number for power, number in enumerate(coefficients)][1:]


def with_distinct_roots_far_apart(source):
    """A real-rooted polynomial of degree 1 or more."""
    while True:
        known = k.chosen(source, k.REAL, 6)
        if known.degree > 0:
            return known


class AgainstKnownRoots(unittest.TestCase):
    def check(self, first, second):
        setting = [set_to(0, first), set_to(1, second)]
        pairs = k.joint_pairs(first, second)
        found = s.after_create(
            *setting, s.is_real_rooted(0), s.joint_multiplicities(0, 1), s.interlaces(0, 1),
            s.have_common_interlacing(0, 1), s.all_have_common_interlacing())[2:]
        common = k.have_common_interlacing(first, second)
        self.assertEqual(found, [
            [int(first.is_real_rooted())],
            [len(pairs)] + [number for pair in pairs for number in pair],
            [int(k.interlaces(first, second))],
            [int(common)],
            [1] if common else [0, 0, 1],
        ], (first.coefficients, second.coefficients))

    def test_any_factors(self):
        source = random.Random(1)
        for _ in range(400):
            self.check(k.chosen(source, k.ALL, 6), k.chosen(source, k.ALL, 6))

    def test_real_factors_of_small_degree(self):
        source = random.Random(2)
        for _ in range(400):
            self.check(k.chosen(source, k.REAL, 3), k.chosen(source, k.REAL, 3))

    def test_shared_factors(self):
        source = random.Random(3)
        for _ in range(200):
            shared = k.chosen(source, k.ALL, 3).factors
            first = k.Known(shared + k.chosen(source, k.ALL, 3).factors)
            second = k.Known(shared + k.chosen(source, k.ALL, 3).factors, -1)
            if first.fits() and second.fits():
                self.check(first, second)

    def test_all_whole_roots_of_degree_two_and_three(self):
        rows = [k.Known([k.linear(a), k.linear(b)]) for a in ZERO_TO_FOUR for b in range(a, 5)]
        triples = ((0, 2, 4), (0, 1, 1), (2, 2, 2), (1, 3, 3))
        rows += [k.Known([k.linear(root) for root in triple]) for triple in triples]
        for first, second in product(rows, rows):
            self.check(first, second)


class Requirements(unittest.TestCase):
    def test_every_root_is_there(self):
        # Of a real-rooted pair, the multiplicities add up to both degrees.
        source = random.Random(4)
        for _ in range(100):
            first = with_distinct_roots_far_apart(source)
            second = with_distinct_roots_far_apart(source)
            numbers = s.last(set_to(0, first), set_to(1, second), s.joint_multiplicities(0, 1))
            self.assertEqual(len(numbers), 1 + 2 * numbers[0])
            self.assertEqual((sum(numbers[1::2]), sum(numbers[2::2])), (first.degree, second.degree))
            self.assertTrue(all(a + b > 0 for a, b in zip(numbers[1::2], numbers[2::2])))

    def test_derivative_interlaces(self):
        source = random.Random(5)
        for _ in range(100):
            first = with_distinct_roots_far_apart(source)
            derivative = derived(first.coefficients)
            if max(map(abs, derivative)) <= 1000:
                calls = [set_to(0, first), s.set_polynomial(1, 1, derivative)]
                self.assertEqual(s.after_create(*calls, s.interlaces(0, 1))[2:], [[1]], first.coefficients)

    def combinations(self, first, second):
        """What is_real_rooted answers of nonnegative combinations, without those that are zero."""
        setting = [s.set_polynomial(0, 1, first), s.set_polynomial(1, 1, second)]
        factors = [pair for pair in product((0, 1, 2, 7, 1000), repeat=2) if pair != (0, 0)]
        asked = [call for a, b in factors for call in (s.add_multiples(0, a, 1, b, 2), s.is_real_rooted(2))]
        found = s.after_create(*setting, *asked)[2:]
        return [answer for combined, answer in zip(found[::2], found[1::2]) if combined != [0]]

    def test_combinations_of_interlacing_polynomials(self):
        source = random.Random(6)
        checked = 0
        while checked < 40:
            first = with_distinct_roots_far_apart(source)
            second = with_distinct_roots_far_apart(source)
            if k.interlaces(first, second):
                checked += 1
                for other in (second.coefficients, negated(second.coefficients)):
                    self.assertEqual(set(map(tuple, self.combinations(first.coefficients, other))), {(1,)})

    def test_some_combination_of_others_is_not_real_rooted(self):
        for first, second in (([2, -3, 1], [12, -7, 1]), ([0, -3, 1], [2, -3, 1]), ([-1, 0, 1], [-3, 1])):
            found = self.combinations(first, second) + self.combinations(first, negated(second))
            self.assertIn([0], found)
            calls = [s.set_polynomial(0, 1, first), s.set_polynomial(1, 1, second)]
            self.assertEqual(s.after_create(*calls, s.interlaces(0, 1), s.interlaces(1, 0))[2:], [[0], [0]])

    def test_combinations_of_polynomials_with_a_common_interlacing(self):
        source = random.Random(7)
        checked = 0
        while checked < 40:
            first = with_distinct_roots_far_apart(source)
            second = with_distinct_roots_far_apart(source)
            same_sign = first.coefficients[-1] * second.coefficients[-1] > 0
            if same_sign and k.have_common_interlacing(first, second):
                checked += 1
                found = self.combinations(first.coefficients, second.coefficients)
                self.assertEqual(set(map(tuple, found)), {(1,)})

    def test_some_nonnegative_combination_without_a_common_interlacing_is_not_real_rooted(self):
        for first, second in (([2, -3, 1], [12, -7, 1]), ([1, -2, 1], [4, -4, 1]), ([0, 0, 0, 1], [-1, 3, -3, 1])):
            self.assertIn([0], self.combinations(first, second))
            calls = [s.set_polynomial(0, 1, first), s.set_polynomial(1, 1, second)]
            self.assertEqual(s.last(*calls, s.have_common_interlacing(0, 1)), [0])


if __name__ == "__main__":
    unittest.main()
