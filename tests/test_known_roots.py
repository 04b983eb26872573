"""The questions on polynomials of known roots, and the document's requirements as far as the calls show them."""

import random
import unittest
from itertools import combinations_with_replacement, product

import known_roots as k
import session as s

ZERO_TO_FOUR = range(5)
FACTORS = (0, 1, 2, 7, 1000)
SMALL_FACTORS = (0, 1, 2, 3, 5, 8, 13)


def set_to(slot, known):
    return s.set_polynomial(slot, 1, known.coefficients)


def with_distinct_roots_far_apart(source):
    """A real-rooted polynomial of degree 1 or more."""
    while True:
        known = k.chosen(source, k.REAL, 6)
        if known.degree > 0:
            return known


class AgainstKnownRoots(unittest.TestCase):
    def check(self, first, second):
        setting = [set_to(0, first), set_to(1, second)]
        pairs = k.joint_pairs(first, second)
        found = s.after_create(
            *setting, s.is_real_rooted(0), s.joint_multiplicities(0, 1), s.interlaces(0, 1),
            s.have_common_interlacing(0, 1), s.all_have_common_interlacing())[2:]
        common = k.have_common_interlacing(first, second)
        self.assertEqual(found, [
            [int(first.is_real_rooted())],
            [len(pairs)] + [number for pair in pairs for number in pair],
            [int(k.interlaces(first, second))],
            [int(common)],
            [1] if common else [0, 0, 1],
        ], (first.coefficients, second.coefficients))

        self.check_counts(setting, first, second)
        self.check_places(setting, first, second)

    def check_counts(self, setting, first, second):
        calls = [s.are_proportional(0, 1), s.compare_greatest_roots(0, 1)]
        expected = [[int(k.are_proportional(first, second))], k.compare_greatest_roots(first, second)]
        for numerator, denominator in ((-3, 1), (-7, 5), (-1, 1), (0, 3), (1, 2), (1, 1), (4, 2), (13, 5), (9, 3)):
            counts = [k.count_above(known, numerator / denominator) for known in (first, second)]
            calls += [s.count_roots_above(slot, numerator, denominator) for slot in (0, 1)]
            calls.append(s.lead_above(0, 1, numerator, denominator))
            expected += [[counts[0]], [counts[1]], [0, counts[0] - counts[1]]]
        self.assertEqual(s.after_create(*setting, *calls)[2:], expected, (first.coefficients, second.coefficients))

    def check_places(self, setting, first, second):
        calls = []
        expected = []
        for bits in (0, 1, 5, 20):
            calls += [s.first_large_lead(0, 1, bits), s.min_root_gap(0, bits)]
            expected += [k.first_large_lead(first, second, bits), k.min_root_gap(first, bits)]
        for index in range(7):
            calls.append(s.interlacing_interval(0, 1, index, 3 * index))
            expected.append(k.interlacing_interval(first, second, index, 3 * index))
        self.assertEqual(s.after_create(*setting, *calls)[2:], expected, (first.coefficients, second.coefficients))

    def test_any_factors(self):
        source = random.Random(1)
        for _ in range(400):
            self.check(k.chosen(source, k.ALL, 6), k.chosen(source, k.ALL, 6))

    def test_real_factors_of_small_degree(self):
        source = random.Random(2)
        for _ in range(400):
            self.check(k.chosen(source, k.REAL, 3), k.chosen(source, k.REAL, 3))

    def test_shared_factors(self):
        source = random.Random(3)
        for _ in range(200):
            shared = k.chosen(source, k.ALL, 3).factors
            first = k.Known(shared + k.chosen(source, k.ALL, 3).factors)
            second = k.Known(shared + k.chosen(source, k.ALL, 3).factors, -1)
            if first.fits() and second.fits():
                self.check(first, second)

    def test_all_whole_roots_of_degree_two_and_three(self):
        rows = [k.Known([k.linear(a), k.linear(b)]) for a in ZERO_TO_FOUR for b in range(a, 5)]
        triples = ((0, 2, 4), (0, 1, 1), (2, 2, 2), (1, 3, 3))
        rows += [k.Known([k.linear(root) for root in triple]) for triple in triples]
        for first, second in product(rows, rows):
            self.check(first, second)


class Requirements(unittest.TestCase):
    def test_every_root_is_there(self):
        # Of a real-rooted pair, the multiplicities add up to both degrees.
        source = random.Random(4)
        for _ in range(100):
            first = with_distinct_roots_far_apart(source)
            second = with_distinct_roots_far_apart(source)
            numbers = s.last(set_to(0, first), set_to(1, second), s.joint_multiplicities(0, 1))
            self.assertEqual(len(numbers), 1 + 2 * numbers[0])
            self.assertEqual((sum(numbers[1::2]), sum(numbers[2::2])), (first.degree, second.degree))
            self.assertTrue(all(a + b > 0 for a, b in zip(numbers[1::2], numbers[2::2])))

    def test_derivative_interlaces(self):
        source = random.Random(5)
        for _ in range(100):
            first = with_distinct_roots_far_apart(source)
            calls = [set_to(0, first), s.derivative(0, 1), s.interlaces(0, 1), s.is_real_rooted(1)]
            self.assertEqual(s.after_create(*calls)[2:], [[1], [1]], first.coefficients)

    def test_derivative_of_fractions_interlaces(self):
        source = random.Random(8)
        for _ in range(100):
            row = [source.randint(-1000, 1000) for _ in range(source.randint(1, 6))]
            calls = [s.set_roots(0, source.randint(1, 1000), row)]
            for slot in range(len(row)):
                # Down to a constant, each derivative interlaces the one before.
                calls += [s.derivative(slot % 4, (slot + 1) % 4), s.interlaces(slot % 4, (slot + 1) % 4)]
            self.assertEqual(s.after_create(*calls)[2::2], [[1]] * len(row), calls)

    def combinations(self, combining, first, second, factors):
        """What is_real_rooted answers of combinations with these factors, without those that are zero."""
        setting = [s.set_polynomial(0, 1, first), s.set_polynomial(1, 1, second)]
        pairs = [pair for pair in product(factors, repeat=2) if pair != (0, 0)]
        asked = [call for a, b in pairs for call in (combining(0, a, 1, b, 2), s.is_real_rooted(2))]
        found = s.after_create(*setting, *asked)[2:]
        return {answer[0] for combined, answer in zip(found[::2], found[1::2]) if combined != [0]}

    def test_combinations_of_interlacing_polynomials(self):
        source = random.Random(6)
        checked = 0
        while checked < 40:
            first = with_distinct_roots_far_apart(source)
            second = with_distinct_roots_far_apart(source)
            if k.interlaces(first, second):
                checked += 1
                for combining in (s.add_multiples, s.subtract_multiples):
                    for left, right in ((first, second), (second, first)):
                        found = self.combinations(combining, left.coefficients, right.coefficients, FACTORS)
                        self.assertEqual(found, {1}, (left.coefficients, right.coefficients))

    def test_interlacing_just_if_all_combinations_are_real_rooted(self):
        rows = [k.Known([k.linear(root) for root in roots]) for degree in (1, 2, 3)
                for roots in combinations_with_replacement(range(4), degree)]
        for first, second in product(rows, rows):
            if abs(first.degree - second.degree) <= 1 and first.degree >= second.degree:
                setting = [set_to(0, first), set_to(1, second)]
                asked = s.after_create(*setting, s.interlaces(0, 1), s.interlaces(1, 0))[2:]
                found = set()
                for combining in (s.add_multiples, s.subtract_multiples):
                    found |= self.combinations(combining, first.coefficients, second.coefficients, SMALL_FACTORS)
                self.assertEqual([1] in asked, found == {1}, (first.coefficients, second.coefficients))

    def test_combinations_of_polynomials_with_a_common_interlacing(self):
        source = random.Random(7)
        checked = 0
        while checked < 40:
            first = with_distinct_roots_far_apart(source)
            second = with_distinct_roots_far_apart(source)
            same_sign = first.coefficients[-1] * second.coefficients[-1] > 0
            if same_sign and k.have_common_interlacing(first, second):
                checked += 1
                found = self.combinations(s.add_multiples, first.coefficients, second.coefficients, FACTORS)
                self.assertEqual(found, {1}, (first.coefficients, second.coefficients))

    def test_common_interlacing_just_if_all_nonnegative_combinations_are_real_rooted(self):
        for degree in (1, 2, 3):
            rows = [k.Known([k.linear(root) for root in roots])
                    for roots in combinations_with_replacement(range(4), degree)]
            for first, second in product(rows, rows):
                calls = [set_to(0, first), set_to(1, second), s.have_common_interlacing(0, 1)]
                found = self.combinations(s.add_multiples, first.coefficients, second.coefficients, SMALL_FACTORS)
                self.assertEqual(s.last(*calls) == [1], found == {1}, (first.coefficients, second.coefficients))


if __name__ == "__main__":
    unittest.main()
