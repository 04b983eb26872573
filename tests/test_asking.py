"""is_real_rooted, joint_multiplicities, interlaces, have_common_interlacing and all_have_common_interlacing."""

import unittest

import session as s
from checks import FAR, Asking, polynomials, roots

# Polynomials without multiple roots, with them, with roots that are not real, and constants.
VARIOUS = [[5], [-5], [0, 1], [1, -2], [-2, 0, 1], [1, 0, 1], [0, 0, 1], [2, -3, 1], [0, 0, 0, 0, 0, 0, -7]]


class IsRealRooted(Asking):
    def assert_answer(self, row, expected):
        self.assert_all(polynomials(row), s.is_real_rooted(0), [expected])
        self.assert_all(polynomials([-number for number in row]), s.is_real_rooted(0), [expected])

    def test_real_rooted(self):
        for row in ([0, 1], [-7, 2], [2, -3, 1], [-19, -19, 10], [-2, 0, 1], [-1, -1, 1], [1, -3, 0, 1],
                    [0, -6, 11, -6, 1]):
            self.assert_answer(row, 1)

    def test_multiple_roots(self):
        for row in ([0, 0, 1], [4, -4, 1], [0, 0, 0, 0, 0, 0, 3], [4, 0, -4, 0, 1], [-8, 12, -6, 1], [0, 0, 1, -2, 1]):
            self.assert_answer(row, 1)

    def test_not_real_rooted(self):
        for row in ([1, 0, 1], [1, 1, 1], [-1, 0, 0, 1], [1, 0, 2, 0, 1], [0, 0, 1, 0, 1], [1, 0, 0, 0, 0, 0, 1],
                    [-1, 0, 0, 0, 0, 0, 1], [-1, 0, 0, 0, 1], [-2, 1, -2, 1]):
            self.assert_answer(row, 0)

    def test_multiple_roots_that_are_not_real_beside_a_real_one(self):
        # (x ** 2 + 1) ** 2 * (x - 1) and (x ** 2 + 1) * (x - 1) ** 2
        self.assert_answer([-1, 1, -2, 2, -1, 1], 0)
        self.assert_answer([1, -2, 2, -2, 1], 0)

    def test_constants(self):
        for number in (1, -1, 1000):
            self.assert_answer([number], 1)

    def test_fractions(self):
        self.assert_all([s.set_polynomial(0, 1000, [1, -2, 1])], s.is_real_rooted(0), [1])
        self.assert_all([s.set_polynomial(0, 1000, [2, -2, 1])], s.is_real_rooted(0), [0])

    def test_discriminant_by_a_hair(self):
        self.assert_all(polynomials([250, 1000, 1000]), s.is_real_rooted(0), [1])
        self.assert_all(polynomials([251, 1000, 1000]), s.is_real_rooted(0), [0])
        self.assert_all(polynomials([249, 1000, 1000]), s.is_real_rooted(0), [1])

    def test_every_slot(self):
        for slot in range(4):
            self.assert_all([s.set_polynomial(slot, 1, [1, 0, 1])], s.is_real_rooted(slot), [0])
            self.assert_all([s.set_roots(slot, 1, [1, 2])], s.is_real_rooted(slot), [1])

    def test_errors(self):
        for slot in (4, FAR):
            self.assert_all(roots([1]), s.is_real_rooted(slot), [-2])
            self.assert_nothing_changes(s.is_real_rooted(slot))
        self.assert_all(roots([1]), s.is_real_rooted(1), [-33])
        self.assert_all([s.set_polynomial(0, 5, [0, 0])], s.is_real_rooted(0), [-33])
        for slot in range(4):
            self.assert_nothing_changes(s.is_real_rooted(slot))


class JointMultiplicities(Asking):
    def assert_pairs(self, setting, expected):
        """The answer, and the one with the slots changed round."""
        flat = [number for pair in expected for number in pair]
        self.assert_all(setting, s.joint_multiplicities(0, 1), [len(expected)] + flat)
        flat = [number for pair in expected for number in reversed(pair)]
        self.assert_all(setting, s.joint_multiplicities(1, 0), [len(expected)] + flat)

    def test_simple_roots(self):
        self.assert_pairs(roots([0, 2], [1]), [(1, 0), (0, 1), (1, 0)])
        self.assert_pairs(roots([5, 3, 1], [6, 4, 2]), [(1, 0), (0, 1)] * 3)

    def test_multiplicities(self):
        self.assert_pairs(roots([1, 1, 1, 2], [3, 3]), [(3, 0), (1, 0), (0, 2)])
        self.assert_pairs(roots([7] * 6, [-7] * 6), [(0, 6), (6, 0)])
        self.assert_pairs(roots([1, 2, 2, 3, 3, 3], [3, 3, 2, 1, 1, 1]), [(1, 3), (2, 1), (3, 2)])

    def test_roots_of_both(self):
        self.assert_pairs(roots([1, 2], [2, 3]), [(1, 0), (1, 1), (0, 1)])
        self.assert_pairs(roots([4, 4], [4]), [(2, 1)])
        self.assert_pairs(roots([0, 0, 5], [0, 5, 5]), [(2, 1), (1, 2)])

    def test_ascending_order_over_zero(self):
        self.assert_pairs(roots([-1000, 0, 1000], [-999, 999]), [(1, 0), (0, 1), (1, 0), (0, 1), (1, 0)])

    def test_irrational_roots(self):
        self.assert_pairs(polynomials([-2, 0, 1], [-3, 0, 1]), [(0, 1), (1, 0), (1, 0), (0, 1)])
        self.assert_pairs(polynomials([4, 0, -4, 0, 1], [0, -2, 0, 1]), [(2, 1), (0, 1), (2, 1)])
        self.assert_pairs(polynomials([-2, 0, 1], [-989, 700]), [(1, 0), (0, 1), (1, 0)])
        self.assert_pairs(polynomials([-2, 0, 1], [-707, 500]), [(1, 0), (0, 1), (1, 0)])
        self.assert_pairs(polynomials([-2, 0, 1], [-577, 408]), [(1, 0), (1, 0), (0, 1)])

    def test_roots_that_are_not_real_are_left_out(self):
        self.assert_pairs(polynomials([1, 0, 1], [4, 0, 1]), [])
        self.assert_pairs(polynomials([1, 0, 1], [1, 0, 1]), [])
        self.assert_pairs(polynomials([-1, 0, 0, 1], [1, 0, 1]), [(1, 0)])
        self.assert_pairs(polynomials([-1, 0, 0, 0, 1], [-1, 0, 0, 0, 0, 0, 1]), [(1, 1), (1, 1)])
        self.assert_pairs(polynomials([0, 0, 1, 0, 1], [0, 1, 0, 1]), [(2, 1)])

    def test_constants(self):
        self.assert_pairs(polynomials([3], [-5]), [])
        self.assert_pairs(polynomials([3], [0, 0, 1]), [(0, 2)])
        self.assert_pairs(polynomials([1000], [-2, 0, 1]), [(0, 1), (0, 1)])

    def test_last_coefficient_below_zero(self):
        self.assert_pairs(polynomials([2, -1], [-3, 4, -1]), [(0, 1), (1, 0), (0, 1)])
        self.assert_pairs(polynomials([-4, 4, -1], [2, -1]), [(2, 1)])

    def test_factors_over_all_do_not_matter(self):
        setting = [s.set_polynomial(0, 1000, [-2, 0, 1]), s.set_polynomial(1, 7, [-600, 0, 300])]
        self.assert_pairs(setting, [(1, 1), (1, 1)])

    def test_fractions(self):
        self.assert_pairs([s.set_roots(0, 1000, [1, 999]), s.set_roots(1, 999, [1, 998])],
                          [(1, 0), (0, 1), (0, 1), (1, 0)])
        self.assert_pairs([s.set_roots(0, 6, [3, 4]), s.set_roots(1, 4, [2, 3])], [(1, 1), (1, 0), (0, 1)])

    def test_multiple_roots_that_are_fractions(self):
        self.assert_pairs([s.set_roots(0, 2, [1, 1, 3]), s.set_roots(1, 3, [2, 2, 2, 1])],
                          [(0, 1), (2, 0), (0, 3), (1, 0)])
        self.assert_pairs([s.set_roots(0, 6, [-5, -5, -5, 4, 4, 9]), s.set_roots(1, 12, [-10, 8, 8, 8, 18, 18])],
                          [(3, 1), (2, 3), (1, 2)])
        # (2 * x ** 2 - 1) ** 2 and 3 * x ** 2 - 1, then the first again beside 4 * x ** 2 - 1
        self.assert_pairs(polynomials([1, 0, -4, 0, 4], [-1, 0, 3]), [(2, 0), (0, 1), (0, 1), (2, 0)])
        self.assert_pairs(polynomials([1, 0, -4, 0, 4], [-1, 0, 4]), [(2, 0), (0, 1), (0, 1), (2, 0)])

    def test_roots_far_out_for_their_coefficients(self):
        # 10 * x ** 6 - 19 * (x ** 5 + .. + 1) has a root between 2.8 and 2.9, and one between -1 and 0.
        self.assert_pairs(polynomials([-19] * 6 + [10], [-14, 5]), [(1, 0), (0, 1), (1, 0)])
        self.assert_pairs(polynomials([-19] * 6 + [10], [-29, 10]), [(1, 0), (1, 0), (0, 1)])
        self.assert_pairs(polynomials([-19] * 6 + [10], [1]), [(1, 0), (1, 0)])
        self.assert_pairs(polynomials([-19, -19, 10], [1]), [(1, 0), (1, 0)])
        self.assert_pairs(polynomials([-19, -19, 10], [2, 1]), [(0, 1), (1, 0), (1, 0)])
        self.assert_pairs(polynomials([-19, 19, 10], [2, 1]), [(1, 0), (0, 1), (1, 0)])
        self.assert_pairs(polynomials([-1000] * 6 + [1], [-1000, 1]), [(1, 0), (0, 1), (1, 0)])
        self.assert_pairs(polynomials([-1000] * 6 + [1], [1000, 1]), [(0, 1), (1, 0), (1, 0)])

    def test_twelve_roots(self):
        self.assert_pairs([s.set_roots(0, 1, range(6)), s.set_roots(1, 2, range(-1, 11, 2))], [(0, 1), (1, 0)] * 6)

    def test_same_slot(self):
        for row in VARIOUS:
            found = s.after_create(*polynomials(row, row), s.joint_multiplicities(0, 1), s.joint_multiplicities(0, 0))
            self.assertEqual(found[2], found[3])
        self.assert_all(roots([1, 1, 2]), s.joint_multiplicities(0, 0), [2, 2, 2, 1, 1])
        self.assert_all(polynomials([9]), s.joint_multiplicities(0, 0), [0])

    def test_errors(self):
        self.assert_pair_errors(s.joint_multiplicities)

    def test_nothing_changes(self):
        self.assert_nothing_changes(s.joint_multiplicities(0, 1))


class VeryNearRoots(Asking):
    """Roots that only exact numbers tell apart."""

    def line(self, slot, constant_first):
        """Calls for the slot: 10 ** 30 * x plus a number."""
        return [s.set_polynomial(slot, 1, [0, 1]), *s.scaled_by_powers(slot, 10),
                s.set_polynomial(3, 1, [constant_first]), s.add_multiples(slot, 1, 3, 1, slot)]

    def test_ten_to_the_minus_thirty(self):
        setting = self.line(0, -1) + self.line(1, -2)
        self.assert_all(setting, s.joint_multiplicities(0, 1), [2, 1, 0, 0, 1])
        self.assert_all(setting, s.joint_multiplicities(1, 0), [2, 0, 1, 1, 0])
        self.assert_all(setting, s.interlaces(1, 0), [1])
        self.assert_all(setting, s.interlaces(0, 1), [0])
        self.assert_all(setting, s.have_common_interlacing(0, 1), [1])

    def test_the_same_root_of_large_polynomials(self):
        setting = self.line(0, -3) + [s.add_multiples(0, 0, 0, 1, 1), s.set_polynomial(3, 1, [1])]
        self.assert_all(setting, s.joint_multiplicities(0, 1), [1, 1, 1])

    def near_one(self, constant):
        """Calls for slot 0: 10 ** 30 * (x - 1) ** 2 + constant; slot 1: x - 1. The first takes halves to fit."""
        half = [s.set_polynomial(0, 2, [1, -2, 1]), *s.scaled_by_powers(0, 10)]
        return half + [s.set_polynomial(1, 1, [constant]), s.add_multiples(0, 1, 1, 1, 0), s.set_roots(1, 1, [1])]

    def test_two_roots_around_a_third(self):
        setting = self.near_one(-1)
        self.assert_all(setting, s.joint_multiplicities(0, 1), [3, 1, 0, 0, 1, 1, 0])
        self.assert_all(setting, s.is_real_rooted(0), [1])
        self.assert_all(setting, s.interlaces(0, 1), [1])

    def test_two_roots_that_meet(self):
        setting = self.near_one(0)
        self.assert_all(setting, s.joint_multiplicities(0, 1), [1, 2, 1])
        self.assert_all(setting, s.is_real_rooted(0), [1])

    def test_two_roots_that_are_just_not_real(self):
        setting = self.near_one(1)
        self.assert_all(setting, s.joint_multiplicities(0, 1), [1, 0, 1])
        self.assert_all(setting, s.is_real_rooted(0), [0])
        self.assert_all(setting, s.interlaces(0, 1), [0])

    def test_near_zero_and_far_from_it(self):
        # 10 ** 30 * x ** 2 - 1 and x ** 2 - 10 ** 30
        setting = [s.set_polynomial(0, 1, [0, 0, 1]), *s.scaled_by_powers(0, 10),
                   s.set_polynomial(3, 1, [-1]), s.add_multiples(0, 1, 3, 1, 0),
                   *s.scaled_by_powers(3, 10), s.set_polynomial(1, 1, [0, 0, 1]), s.add_multiples(1, 1, 3, 1, 1)]
        self.assert_all(setting, s.joint_multiplicities(0, 1), [4, 0, 1, 1, 0, 1, 0, 0, 1])
        self.assert_all(setting + [s.set_polynomial(3, 1, [0, 1])], s.joint_multiplicities(0, 3), [3, 1, 0, 0, 1, 1, 0])

    def test_cluster_of_roots(self):
        setting = [s.set_roots(0, 1000, [500, 501, 502]), s.set_roots(1, 999, [500, 501, 502])]
        self.assert_all(setting, s.joint_multiplicities(0, 1), [6] + [1, 0, 0, 1] * 3)
        self.assert_all(setting, s.interlaces(1, 0), [1])


class Interlaces(Asking):
    def assert_answers(self, setting, forward, backward):
        self.assert_all(setting, s.interlaces(0, 1), [forward])
        self.assert_all(setting, s.interlaces(1, 0), [backward])

    def test_one_degree_less(self):
        self.assert_answers(roots([0, 2], [1]), 1, 0)
        self.assert_answers(roots([1, 3, 5, 7], [2, 4, 6]), 1, 0)
        self.assert_answers(roots([1, 3, 5], [0, 4]), 0, 0)
        self.assert_answers(roots([1, 3, 5], [2, 6]), 0, 0)

    def test_same_degree(self):
        self.assert_answers(roots([1, 3], [0, 2]), 1, 0)
        self.assert_answers(roots([0, 3], [1, 2]), 0, 0)
        self.assert_answers(roots([3], [2]), 1, 0)
        self.assert_answers(roots([1, 2], [3, 4]), 0, 0)

    def test_degrees_too_far_apart(self):
        self.assert_answers(roots([1, 2, 3], [2]), 0, 0)
        self.assert_answers(roots([1, 2], []), 0, 0)
        self.assert_answers(roots([1, 2, 3, 4, 5, 6], [1, 2, 3, 4]), 0, 0)

    def test_roots_of_both(self):
        self.assert_answers(roots([1, 2], [1, 2]), 1, 1)
        self.assert_answers(roots([1, 2, 3], [2, 1]), 1, 0)
        self.assert_answers(roots([1, 2, 3], [2, 3]), 1, 0)
        self.assert_answers(roots([1, 4], [2, 4]), 0, 1)

    def test_multiple_roots(self):
        self.assert_answers(roots([1, 1], [1]), 1, 0)
        self.assert_answers(roots([1, 1, 1], [1, 1]), 1, 0)
        self.assert_answers(roots([1, 1], [2]), 0, 0)
        self.assert_answers(roots([1, 1], [0, 2]), 0, 0)
        self.assert_answers(roots([1, 1, 3], [1, 2]), 1, 0)
        self.assert_answers(roots([2, 2], [2, 2]), 1, 1)
        self.assert_answers(roots([1, 1], [1, 1, 1]), 0, 1)

    def test_constants(self):
        self.assert_answers(polynomials([3], [-7]), 1, 1)
        self.assert_answers(polynomials([0, 1], [5]), 1, 0)
        self.assert_answers(polynomials([-2, 0, 1], [5]), 0, 0)
        self.assert_answers(polynomials([0, 0, 1], [5]), 0, 0)
        self.assert_answers(polynomials([1, 0, 1], [5]), 0, 0)

    def test_not_real_rooted(self):
        self.assert_answers(polynomials([1, 0, 1], [0, 1]), 0, 0)
        self.assert_answers(polynomials([1, 0, 1], [1, 0, 1]), 0, 0)
        self.assert_answers(polynomials([0, 1, 0, 1], [1, 0, 1]), 0, 0)
        # The leads are 0 and 1, but one of the two is not real-rooted.
        self.assert_answers(polynomials([-1, 0, 0, 1], [1]), 0, 0)
        self.assert_answers(polynomials([0, 1], [1, 0, 1]), 0, 0)

    def test_irrational_roots(self):
        self.assert_answers(polynomials([-2, 0, 1], [0, 1]), 1, 0)
        self.assert_answers(polynomials([-2, 0, 1], [-3, 2]), 0, 0)
        self.assert_answers(polynomials([-2, 0, 1], [-7, 5]), 1, 0)
        self.assert_answers(polynomials([1, -3, 0, 1], [-1, 0, 1]), 1, 0)
        self.assert_answers(polynomials([4, 0, -4, 0, 1], [0, -2, 0, 1]), 1, 0)

    def test_last_coefficient_below_zero(self):
        self.assert_answers(polynomials([2, 1, -1], [0, 1]), 1, 0)
        self.assert_answers(polynomials([-2, -1, 1], [0, -1]), 1, 0)
        self.assert_answers(polynomials([0, -1], [1, -1]), 0, 1)

    def test_same_slot(self):
        for row, expected in zip(VARIOUS, [1, 1, 1, 1, 1, 0, 1, 1, 1]):
            self.assert_all(polynomials(row), s.interlaces(0, 0), [expected])

    def test_errors(self):
        self.assert_pair_errors(s.interlaces)

    def test_nothing_changes(self):
        self.assert_nothing_changes(s.interlaces(0, 1))


class HaveCommonInterlacing(Asking):
    def assert_answer(self, setting, expected):
        self.assert_all(setting, s.have_common_interlacing(0, 1), [expected])
        self.assert_all(setting, s.have_common_interlacing(1, 0), [expected])

    def test_leads_of_one(self):
        self.assert_answer(roots([0, 2], [1, 3]), 1)
        self.assert_answer(roots([0, 3], [1, 2]), 1)
        self.assert_answer(roots([0, 3, 4], [1, 2, 5]), 1)
        self.assert_answer(roots([1], [1000]), 1)

    def test_leads_of_two(self):
        self.assert_answer(roots([0, 1], [2, 3]), 0)
        self.assert_answer(roots([0, 1, 4], [2, 3, 5]), 0)
        self.assert_answer(roots([0, 4, 5], [1, 2, 3]), 0)

    def test_roots_of_both(self):
        self.assert_answer(roots([1, 2], [1, 2]), 1)
        self.assert_answer(roots([1, 2], [2, 3]), 1)
        self.assert_answer(roots([1, 2, 3], [3, 4, 5]), 0)

    def test_multiple_roots(self):
        self.assert_answer(roots([1, 1], [0, 2]), 1)
        self.assert_answer(roots([1, 1], [1, 2]), 1)
        self.assert_answer(roots([1, 1], [2, 2]), 0)
        self.assert_answer(roots([1, 1], [2, 3]), 0)
        self.assert_answer(roots([1, 1, 1], [1, 1, 1]), 1)
        self.assert_answer(roots([1, 1, 1], [0, 1, 2]), 1)
        self.assert_answer(roots([1, 1, 1], [0, 0, 2]), 0)

    def test_other_degrees(self):
        self.assert_answer(roots([0, 2], [1]), 0)
        self.assert_answer(roots([1], []), 0)
        self.assert_answer(roots([1, 2, 3], [1, 2]), 0)

    def test_constants(self):
        self.assert_answer(polynomials([3], [-7]), 1)

    def test_not_real_rooted(self):
        self.assert_answer(polynomials([1, 0, 1], [2, -3, 1]), 0)
        self.assert_answer(polynomials([1, 0, 1], [1, 0, 1]), 0)
        self.assert_answer(polynomials([1, 0, 1], [4, 0, 1]), 0)
        self.assert_answer(polynomials([-1, 0, 0, 1], [-2, 0, 0, 1]), 0)

    def test_irrational_roots(self):
        self.assert_answer(polynomials([-2, 0, 1], [-3, 0, 1]), 1)
        self.assert_answer(polynomials([-2, 0, 1], [6, -5, 1]), 0)
        self.assert_answer(polynomials([-2, 0, 1], [-7, 0, 5]), 1)

    def test_last_coefficient_below_zero(self):
        self.assert_answer(polynomials([0, 2, -1], [3, -4, 1]), 1)
        self.assert_answer(polynomials([0, 1, -1], [6, -5, 1]), 0)

    def test_same_slot(self):
        for row, expected in zip(VARIOUS, [1, 1, 1, 1, 1, 0, 1, 1, 1]):
            self.assert_all(polynomials(row), s.have_common_interlacing(0, 0), [expected])

    def test_errors(self):
        self.assert_pair_errors(s.have_common_interlacing)

    def test_nothing_changes(self):
        self.assert_nothing_changes(s.have_common_interlacing(0, 1))


class AllHaveCommonInterlacing(Asking):
    def assert_answer(self, setting, expected):
        self.assert_all(setting, s.all_have_common_interlacing(), expected)

    def test_all_zero(self):
        self.assert_answer([], [1])

    def test_one_polynomial_alone(self):
        for slot in range(4):
            self.assert_answer([s.set_roots(slot, 1, [1])], [1])
            self.assert_answer([s.set_polynomial(slot, 1, [1, 0, 1])], [1])

    def test_all_pairs_good(self):
        self.assert_answer(roots([0, 4], [1, 5], [2, 6], [3, 7]), [1])
        self.assert_answer(polynomials([1], [2], [-3], [4]), [1])

    def test_each_single_bad_pair(self):
        # The span of the good ones reaches into both others, and these two lie apart.
        good = [0, 10]
        low = [-5, 3]
        high = [5, 15]
        for first in range(4):
            for second in range(first + 1, 4):
                for left, right in ((low, high), (high, low)):
                    rows = [good] * 4
                    rows[first] = left
                    rows[second] = right
                    self.assert_answer(roots(*rows), [0, first, second])

    def test_first_bad_pair_in_lexicographic_order(self):
        self.assert_answer(roots([0, 1], [2, 3], [4, 5], [6, 7]), [0, 0, 1])
        self.assert_answer(roots([0, 4], [0, 4], [1, 5], [1]), [0, 0, 3])
        self.assert_answer(roots([0, 10], [-5, 3], [5, 15], [5, 16]), [0, 1, 2])
        self.assert_answer(roots([0, 3], [1, 1], [2, 2], [4, 5]), [0, 0, 3])
        # Just slots 0 and 3 are bad, and slots 1 and 2.
        self.assert_answer(roots([0, 1, 10], [1, 2, 3], [1, 5, 12], [2, 3, 12]), [0, 0, 3])
        self.assert_answer(roots([0, 1, 10], [1, 2, 3], [1, 5, 12]), [0, 1, 2])

    def test_zero_polynomials_are_passed_over(self):
        self.assert_answer([s.set_roots(1, 1, [0, 1]), s.set_roots(3, 1, [2, 3])], [0, 1, 3])
        self.assert_answer([s.set_roots(0, 1, [0, 2]), s.set_roots(3, 1, [1, 3])], [1])

    def test_other_degrees(self):
        self.assert_answer(roots([1], [1], [1, 2]), [0, 0, 2])
        self.assert_answer(polynomials([1], [0, 1]), [0, 0, 1])

    def test_not_real_rooted(self):
        self.assert_answer(polynomials([-1, 0, 1], [-1, 0, 1], [1, 0, 1]), [0, 0, 2])
        self.assert_answer(polynomials([1, 0, 1], [1, 0, 1]), [0, 0, 1])

    def test_nothing_changes(self):
        self.assert_nothing_changes(s.all_have_common_interlacing())


if __name__ == "__main__":
    unittest.main()
