"""are_proportional, count_roots_above, lead_above and compare_greatest_roots."""

import unittest

import session as s
from checks import FAR, Asking, polynomials, roots

# Arguments outside their ranges, and at their edges.
WRONG_ARGUMENTS = [
    (-1000001, 1), (1000001, 1), (-2147483648, 1000), (2147483647, 1000), (0, 0), (0, 1001), (0, FAR), (1000001, 0)]
EDGE_ARGUMENTS = [(-1000000, 1), (1000000, 1), (-1000000, 1000), (1000000, 1000), (0, 1), (0, 1000)]


def far_root(slot, sign):
    """Calls that set a slot to x - sign * 10 ** 30; they use slot 3."""
    return [s.set_polynomial(slot, 1, [-sign]), *s.scaled_by_powers(slot, 10),
            s.set_polynomial(3, 1, [0, 1]), s.add_multiples(slot, 1, 3, 1, slot)]


class AreProportional(Asking):
    def assert_answer(self, setting, expected):
        self.assert_all(setting, s.are_proportional(0, 1), [expected])
        self.assert_all(setting, s.are_proportional(1, 0), [expected])

    def test_multiples(self):
        self.assert_answer(polynomials([1, 2, 3], [1, 2, 3]), 1)
        self.assert_answer(polynomials([1, 2, 3], [7, 14, 21]), 1)
        self.assert_answer(polynomials([2, -4, 6], [-3, 6, -9]), 1)
        self.assert_answer(polynomials([0, 0, 5], [0, 0, -1]), 1)
        self.assert_answer(polynomials([1, 0, 1], [-4, 0, -4]), 1)

    def test_fractions(self):
        self.assert_answer([s.set_polynomial(0, 7, [3, -1, 2]), s.set_polynomial(1, 1000, [-9, 3, -6])], 1)
        self.assert_answer([s.set_polynomial(0, 7, [3, -1, 2]), s.set_polynomial(1, 1000, [-9, 3, 6])], 0)
        self.assert_answer([s.set_polynomial(0, 6, [-3, 2]), s.set_roots(1, 2, [3])], 1)

    def test_each_coefficient_counts(self):
        row = [1, 2, 3, 4, 5, 6, 7]
        for power in range(7):
            other = [3 * number for number in row]
            other[power] += 1
            self.assert_answer(polynomials(row, other), 0)

    def test_one_sign_counts(self):
        self.assert_answer(polynomials([1, 1], [1, -1]), 0)
        self.assert_answer(polynomials([-2, 0, 1], [2, 0, 1]), 0)

    def test_other_degrees(self):
        self.assert_answer(polynomials([1, 2], [1, 2, 3]), 0)
        self.assert_answer(polynomials([0, 1], [0, 0, 1]), 0)
        self.assert_answer(polynomials([2, 3], [0, 2, 3]), 0)
        self.assert_answer(polynomials([5], [5, 5]), 0)
        self.assert_answer(polynomials([0, 5], [5]), 0)

    def test_constants(self):
        self.assert_answer(polynomials([3], [-7]), 1)
        self.assert_answer([s.set_polynomial(0, 13, [3]), s.set_roots(1, 1, [])], 1)

    def test_same_roots_of_other_multiplicities(self):
        self.assert_answer(roots([1, 1, 2], [1, 2, 2]), 0)
        self.assert_answer(roots([1, 1, 2], [2, 1, 1]), 1)

    def test_by_a_hair(self):
        line = [s.set_polynomial(0, 1, [0, 1]), *s.scaled_by_powers(0, 10), s.set_polynomial(3, 1, [1])]
        other = [s.add_multiples(0, 1, 3, 2, 1), s.add_multiples(0, 1, 3, 1, 0)]
        self.assert_answer(line + other, 0)
        self.assert_answer(line + other + [s.subtract_multiples(1, 1, 3, 1, 1)], 1)

    def test_same_slot(self):
        for row in ([4], [-1, 2], [1, 0, 1], [0, 0, 0, 0, 0, 0, -1]):
            self.assert_all(polynomials(row), s.are_proportional(0, 0), [1])

    def test_errors(self):
        self.assert_pair_errors(s.are_proportional)

    def test_nothing_changes(self):
        self.assert_nothing_changes(s.are_proportional(0, 1))


class CountRootsAbove(Asking):
    def assert_counts(self, setting, *counts):
        """The answer for slot 0 and each (numerator, denominator, count)."""
        for numerator, denominator, count in counts:
            with self.subTest(setting=setting, numerator=numerator, denominator=denominator):
                self.assert_all(setting, s.count_roots_above(0, numerator, denominator), [count])

    def test_whole_roots(self):
        self.assert_counts(roots([-3, 1, 2]), (-4, 1, 3), (-2, 1, 2), (0, 1, 2), (3, 2, 1), (5, 2, 0), (9, 1, 0))

    def test_a_root_itself_is_not_above(self):
        self.assert_counts(roots([-3, 1, 2]), (-3, 1, 2), (1, 1, 1), (2, 1, 0))
        self.assert_counts(roots([0]), (0, 1, 0), (0, 1000, 0), (-1, 1000, 1))
        self.assert_counts([s.set_roots(0, 3, [-2, 1])], (-2, 3, 1), (1, 3, 0), (-4, 6, 1), (333, 999, 0))

    def test_multiple_roots(self):
        self.assert_counts(roots([1, 1, 1, 5, 5]), (0, 1, 5), (1, 1, 2), (2, 1, 2), (5, 1, 0))
        self.assert_counts(roots([-7] * 6), (-7001, 1000, 6), (-7, 1, 0), (-6999, 1000, 0))
        self.assert_counts(polynomials([4, 0, -4, 0, 1]), (-2, 1, 4), (-1, 1, 2), (1, 1, 2), (2, 1, 0))

    def test_irrational_roots(self):
        self.assert_counts(
            polynomials([-2, 0, 1]), (1414, 1000, 1), (1415, 1000, 0), (-1414, 1000, 1), (-1415, 1000, 2), (0, 1, 1))

    def test_roots_that_are_not_real_are_not_counted(self):
        self.assert_counts(polynomials([1, 0, 1]), (-1000000, 1, 0), (0, 1, 0))
        self.assert_counts(polynomials([-1, 0, 0, 1]), (0, 1, 1), (1, 1, 0))
        self.assert_counts(polynomials([0, 0, 1, 0, 1]), (-1, 1, 2), (0, 1, 0))

    def test_constants(self):
        for row in ([5], [-5]):
            self.assert_counts(polynomials(row), (-1000000, 1, 0), (0, 1, 0), (1000000, 1, 0))

    def test_last_coefficient_below_zero(self):
        self.assert_counts(polynomials([-2, 3, -1]), (0, 1, 2), (1, 1, 1), (2, 1, 0))

    def test_arguments_far_from_all_roots(self):
        self.assert_counts(roots([-1, 2]), (-1000000, 1, 2), (1000000, 1, 0))
        self.assert_counts(polynomials([1, 2]), (-1000000, 1, 1), (1000000, 1, 0))

    def test_roots_beyond_all_arguments(self):
        self.assert_counts(far_root(0, 1), (-1000000, 1, 1), (1000000, 1, 1))
        self.assert_counts(far_root(0, -1), (-1000000, 1, 0), (1000000, 1, 0))

    def test_an_argument_at_the_edge_that_is_a_root(self):
        # (x - 1000) * 1000, so that the root is 1000000 / 1000; then x - 1000000 and x + 1000000
        self.assert_counts(roots([1000]), (1000000, 1000, 0), (999999, 1000, 1))
        for sign in (1, -1):
            setting = [s.set_polynomial(0, 1, [-sign]), *s.scaled_by_powers(0, 2), s.set_polynomial(1, 1, [0, 1]),
                       s.add_multiples(0, 1, 1, 1, 0)]
            self.assert_counts(setting, (sign * 1000000, 1, 0), (sign * 999999, 1, 1 if sign > 0 else 0))

    def test_every_slot(self):
        for slot in range(4):
            self.assert_all([s.set_roots(slot, 1, [1, 2])], s.count_roots_above(slot, 1, 1), [1])

    def test_edges_of_the_argument(self):
        for numerator, denominator in EDGE_ARGUMENTS:
            above = sum(root * denominator > numerator for root in (-700, 500))
            self.assert_all(roots([-700, 500]), s.count_roots_above(0, numerator, denominator), [above])

    def test_argument_outside(self):
        for numerator, denominator in WRONG_ARGUMENTS:
            self.assert_all(roots([1]), s.count_roots_above(0, numerator, denominator), [-22])
            self.assert_nothing_changes(s.count_roots_above(0, numerator, denominator))

    def test_errors_in_their_order(self):
        for slot in (4, FAR):
            self.assert_all(roots([1]), s.count_roots_above(slot, 0, 1), [-2])
            self.assert_nothing_changes(s.count_roots_above(slot, 0, 1))
            self.assert_all([], s.count_roots_above(slot, 1000001, 0), [-2])
        self.assert_all(roots([1]), s.count_roots_above(1, 0, 1), [-33])
        for numerator, denominator in WRONG_ARGUMENTS:
            self.assert_all(roots([1]), s.count_roots_above(2, numerator, denominator), [-33])
            self.assert_all(roots([1]), s.count_roots_above(4, numerator, denominator), [-2])

    def test_nothing_changes(self):
        for slot in range(4):
            self.assert_nothing_changes(s.count_roots_above(slot, 1, 2))


class LeadAbove(Asking):
    def assert_leads(self, setting, *leads):
        """The answer for each (numerator, denominator, lead), and with the slots changed round."""
        for numerator, denominator, lead in leads:
            with self.subTest(setting=setting, numerator=numerator, denominator=denominator):
                self.assert_all(setting, s.lead_above(0, 1, numerator, denominator), [0, lead])
                self.assert_all(setting, s.lead_above(1, 0, numerator, denominator), [0, -lead])

    def test_ordinary(self):
        self.assert_leads(roots([0, 2], [1]), (-1, 1, 1), (1, 2, 0), (3, 2, 1), (5, 2, 0))
        self.assert_leads(roots([0], [3, 4, 5]), (-1, 1, -2), (1, 1, -3), (7, 2, -2), (9, 1, 0))

    def test_a_root_itself_is_not_above(self):
        self.assert_leads(roots([0, 2], [1]), (0, 1, 0), (1, 1, 1), (2, 1, 0))
        self.assert_leads(roots([2], [2]), (2, 1, 0), (1, 1, 0))
        self.assert_leads([s.set_roots(0, 3, [1, 1]), s.set_roots(1, 6, [2, 3])], (1, 3, -1), (1, 2, 0), (0, 1, 0))

    def test_multiple_roots(self):
        self.assert_leads(roots([1] * 6, [3, 3]), (0, 1, 4), (1, 1, -2), (2, 1, -2), (3, 1, 0))
        self.assert_leads(roots([1] * 6, [-1]), (-2, 1, 5), (-1, 1, 6), (0, 1, 6), (1, 1, 0))

    def test_irrational_roots(self):
        self.assert_leads(
            polynomials([-2, 0, 1], [-3, 0, 1]),
            (-18, 10, 0), (-17, 10, 1), (-3, 2, 1), (-14, 10, 0), (0, 1, 0), (3, 2, -1), (18, 10, 0))

    def test_no_real_roots(self):
        self.assert_leads(polynomials([1, 0, 1], [0, 1]), (-1, 1, -1), (0, 1, 0))
        self.assert_leads(polynomials([3], [-5]), (-1000000, 1, 0), (1000000, 1, 0))

    def test_roots_beyond_all_arguments(self):
        self.assert_leads(far_root(0, 1) + [s.set_roots(1, 1, [1, 2])], (-1000000, 1, -1), (1000000, 1, 1))

    def test_same_slot(self):
        for row in ([5], [1, 0, 1], [2, -3, 1]):
            self.assert_all(polynomials(row), s.lead_above(0, 0, 1, 1), [0, 0])

    def test_edges_of_the_argument(self):
        for numerator, denominator in EDGE_ARGUMENTS:
            above = sum(root * denominator > numerator for root in (-700, 500)) - (2 * denominator > numerator)
            self.assert_all(roots([-700, 500], [2]), s.lead_above(0, 1, numerator, denominator), [0, above])

    def test_argument_outside(self):
        for numerator, denominator in WRONG_ARGUMENTS:
            self.assert_all(roots([1], [2]), s.lead_above(0, 1, numerator, denominator), [-22])
            self.assert_nothing_changes(s.lead_above(0, 1, numerator, denominator))

    def test_errors_in_their_order(self):
        self.assert_pair_errors(lambda first, second: s.lead_above(first, second, 0, 1))
        for numerator, denominator in WRONG_ARGUMENTS:
            self.assert_pair_errors(lambda first, second: s.lead_above(first, second, numerator, denominator))

    def test_nothing_changes(self):
        self.assert_nothing_changes(s.lead_above(0, 1, 1, 2))


class CompareGreatestRoots(Asking):
    def assert_answers(self, setting, forward):
        """The answer, and the one with the slots changed round."""
        self.assert_all(setting, s.compare_greatest_roots(0, 1), [forward])
        self.assert_all(setting, s.compare_greatest_roots(1, 0), [{0: 0, 1: 2, 2: 1, -34: -34}[forward]])

    def test_root_of_the_first_only(self):
        self.assert_answers(roots([0, 2], [1]), 1)
        self.assert_answers(roots([3, -9], [1, 1, 2]), 1)

    def test_root_of_the_second_only(self):
        self.assert_answers(roots([1], [0, 2]), 2)
        self.assert_answers(roots([-5, -5], [-4]), 2)

    def test_root_of_both(self):
        self.assert_answers(roots([0, 2], [1, 2]), 0)
        self.assert_answers(roots([2, 2, 2], [2]), 0)
        self.assert_answers(polynomials([-2, 0, 1], [0, -4, 0, 2]), 0)

    def test_lower_roots_do_not_matter(self):
        self.assert_answers(roots([1, 2, 3], [1, 2, 3, 4]), 2)
        self.assert_answers(roots([4], [1, 2, 3, 4]), 0)

    def test_irrational_roots(self):
        self.assert_answers(polynomials([-2, 0, 1], [-7, 5]), 1)
        self.assert_answers(polynomials([-2, 0, 1], [-577, 408]), 2)
        self.assert_answers(polynomials([-2, 0, 1], [-3, 0, 1]), 2)

    def test_very_near_roots(self):
        line = [s.set_polynomial(0, 1, [0, 1]), *s.scaled_by_powers(0, 10), s.set_polynomial(3, 1, [1])]
        self.assert_answers(line + [s.subtract_multiples(0, 1, 3, 2, 1), s.subtract_multiples(0, 1, 3, 1, 0)], 2)
        self.assert_answers(line + [s.subtract_multiples(0, 1, 3, 0, 1)], 0)

    def test_fractions(self):
        self.assert_answers([s.set_roots(0, 1000, [999]), s.set_roots(1, 999, [998])], 1)
        self.assert_answers([s.set_roots(0, 6, [4, 1]), s.set_roots(1, 3, [2])], 0)

    def test_no_roots_on_one_side(self):
        self.assert_answers(polynomials([1, 0, 1], [7, 1]), 2)
        self.assert_answers(polynomials([7, 1], [-4]), 1)
        self.assert_answers(polynomials([0, 0, 0, 1], [1, 0, 2]), 1)

    def test_no_roots_on_both_sides(self):
        self.assert_answers(polynomials([1, 0, 1], [4, 0, 1]), -34)
        self.assert_answers(polynomials([3], [3]), -34)
        self.assert_answers(polynomials([3], [1, 1, 1]), -34)
        self.assert_nothing_changes(s.compare_greatest_roots(1, 1))

    def test_not_real_rooted(self):
        # The roots of x ** 3 - 2 and x ** 3 - 1 that are real
        self.assert_answers(polynomials([-2, 0, 0, 1], [-1, 0, 0, 1]), 1)
        self.assert_answers(polynomials([-1, 0, 0, 1], [-1, 0, 1]), 0)

    def test_same_slot(self):
        self.assert_all(roots([1, 2]), s.compare_greatest_roots(0, 0), [0])
        self.assert_all(polynomials([1, 0, 1]), s.compare_greatest_roots(0, 0), [-34])
        self.assert_all(polynomials([8]), s.compare_greatest_roots(0, 0), [-34])

    def test_errors_in_their_order(self):
        self.assert_pair_errors(s.compare_greatest_roots)
        # A zero polynomial and one without roots
        self.assert_all(polynomials([1, 0, 1]), s.compare_greatest_roots(0, 1), [-33])
        self.assert_all(polynomials([1, 0, 1]), s.compare_greatest_roots(1, 0), [-33])
        self.assert_all(polynomials([1, 0, 1]), s.compare_greatest_roots(0, 4), [-2])

    def test_nothing_changes(self):
        self.assert_nothing_changes(s.compare_greatest_roots(0, 1))


if __name__ == "__main__":
    unittest.main()
