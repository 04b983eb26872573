"""set_polynomial, set_roots, get_polynomial, add_multiples and summary."""

import unittest
from fractions import Fraction
from itertools import product

import session as s
from checks import FAR, TOP, Kept, shown


def product_of_factors(denominator, roots):
    """The coefficients of the product of x - root / denominator."""
    found = [Fraction(1)]
    for root in roots:
        raised = [Fraction(0)] + found
        lowered = [Fraction(root, denominator) * value for value in found] + [Fraction(0)]
        found = [left - right for left, right in zip(raised, lowered)]
    return found


class SetPolynomial(Kept):
    def test_ordinary(self):
        self.assertEqual(s.last(s.set_polynomial(0, 6, [3, -2, 6, 4])), [4, 1, 2, -1, 3, 1, 1, 2, 3])

    def test_stored_as_answered(self):
        for slot in range(4):
            found = s.after_create(s.set_polynomial(slot, 4, [-2, 0, 3]), s.get_polynomial(slot))
            self.assertEqual(found, [[3, -1, 2, 0, 1, 3, 4]] * 2)

    def test_zero_inside_is_0_1(self):
        self.assertEqual(s.last(s.set_polynomial(0, 1000, [0, 0, 10])), [3, 0, 1, 0, 1, 1, 100])

    def test_zeros_at_the_end_are_removed(self):
        self.assertEqual(s.last(s.set_polynomial(0, 2, [0, 1, 0, 0])), [2, 0, 1, 1, 2])
        self.assertEqual(s.last(s.set_polynomial(0, 1, [5, 0, 0, 0, 0, 0, 0])), [1, 5, 1])

    def test_zero_polynomial(self):
        for row in ([], [0], [0, 0, 0], [0] * 7):
            found = s.after_create(s.set_polynomial(0, 1, [1]), s.set_polynomial(0, 1000, row), s.get_polynomial(0))
            self.assertEqual(found[1:], [[0], [0]])

    def test_replaces_what_was_there(self):
        found = s.after_create(s.set_polynomial(0, 1, [1, 2, 3]), s.set_polynomial(0, 1, [4]), s.get_polynomial(0))
        self.assertEqual(found[1:], [[1, 4, 1]] * 2)

    def test_longest_list(self):
        self.assertEqual(
            s.last(s.set_polynomial(0, 1, [1, 2, 3, 4, 5, 6, 7])), [7, 1, 1, 2, 1, 3, 1, 4, 1, 5, 1, 6, 1, 7, 1])

    def test_greatest_numbers(self):
        self.assertEqual(s.last(s.set_polynomial(3, 1000, [1000, -1000, 999])), [3, 1, 1, -1, 1, 999, 1000])
        self.assertEqual(s.last(s.set_polynomial(3, 1, [-1000, 1000])), [2, -1000, 1, 1000, 1])

    def test_no_such_slot(self):
        for slot in (4, 5, FAR):
            self.assert_refused(-2, s.set_polynomial(slot, 1, [1]))

    def test_too_long(self):
        for row in ([1] * 8, [0] * 8, [1] * 7 + [0], [0] * 60):
            self.assert_refused(-22, s.set_polynomial(0, 1, row))

    def test_denominator_outside(self):
        for denominator in (0, 1001, FAR):
            self.assert_refused(-22, s.set_polynomial(0, denominator, [1]))
            self.assert_refused(-22, s.set_polynomial(0, denominator, []))

    def test_coefficient_outside(self):
        for wrong in (-1001, 1001, -2147483648, 2147483647):
            for row in ([wrong], [wrong, 0, 1], [1, wrong, 0], [0, 0, 0, 0, 0, 0, wrong]):
                self.assert_refused(-22, s.set_polynomial(0, 1000, row))

    def test_slot_is_told_first(self):
        self.assert_refused(-2, s.set_polynomial(4, 1, [1] * 8))
        self.assert_refused(-2, s.set_polynomial(4, 0, [1]))
        self.assert_refused(-2, s.set_polynomial(4, 1, [1001]))


class SetRoots(Kept):
    def test_ordinary(self):
        self.assertEqual(s.last(s.set_roots(0, 2, [1, -3])), [3, -3, 4, 1, 1, 1, 1])
        self.assertEqual(s.last(s.set_roots(0, 3, [2])), [2, -2, 3, 1, 1])

    def test_against_fractions(self):
        for denominator, roots in product((1, 2, 12, 999), ([0, 0], [1, 2, 3], [-6, 4, 4, 0], [5, -5, 7, 12, -1, 8])):
            with self.subTest(denominator=denominator, roots=roots):
                found = s.after_create(s.set_roots(1, denominator, roots), s.get_polynomial(1))
                self.assertEqual(found, [shown(product_of_factors(denominator, roots))] * 2)

    def test_empty_list_is_one(self):
        found = s.after_create(s.set_roots(2, 1000, []), s.get_polynomial(2))
        self.assertEqual(found, [[1, 1, 1]] * 2)

    def test_greatest_numbers(self):
        self.assertEqual(s.last(s.set_roots(0, 1, [1000] * 6))[:3], [7, 10 ** 18, 1])
        self.assertEqual(s.last(s.set_roots(0, 1, [-1000])), [2, 1000, 1, 1, 1])
        self.assertEqual(s.last(s.set_roots(0, 1000, [1000, -1000])), [3, -1, 1, 0, 1, 1, 1])
        self.assertEqual(
            s.last(s.set_roots(0, 1000, [999] * 6)), shown(product_of_factors(1000, [999] * 6)))

    def test_no_such_slot(self):
        for slot in (4, 5, FAR):
            self.assert_refused(-2, s.set_roots(slot, 1, [1]))

    def test_too_long(self):
        for row in ([0] * 7, [1] * 8, [2] * 60):
            self.assert_refused(-22, s.set_roots(0, 1, row))

    def test_denominator_outside(self):
        for denominator in (0, 1001, FAR):
            self.assert_refused(-22, s.set_roots(0, denominator, [1]))
            self.assert_refused(-22, s.set_roots(0, denominator, []))

    def test_root_outside(self):
        for wrong in (-1001, 1001, -2147483648, 2147483647):
            for row in ([wrong], [0, wrong], [wrong, 0, 1, 2, 3, 4]):
                self.assert_refused(-22, s.set_roots(0, 1000, row))

    def test_slot_is_told_first(self):
        self.assert_refused(-2, s.set_roots(4, 1, [1] * 7))
        self.assert_refused(-2, s.set_roots(4, 0, [1]))
        self.assert_refused(-2, s.set_roots(4, 1, [1001]))


class GetPolynomial(Kept):
    def test_does_not_change(self):
        found = s.after_create(s.set_polynomial(1, 2, [1, 2]), *s.get_all(), *s.get_all())
        self.assertEqual(found[1:], [[0], [2, 1, 2, 1, 1], [0], [0]] * 2)

    def test_no_such_slot(self):
        for slot in (4, 5, FAR):
            self.assert_refused(-2, s.get_polynomial(slot))


class AddMultiples(Kept):
    def test_ordinary(self):
        calls = [s.set_polynomial(0, 2, [1, 3]), s.set_polynomial(1, 3, [-1, 0, 5])]
        found = s.after_create(*calls, s.add_multiples(0, 4, 1, 3, 2), *s.get_all())
        self.assertEqual(found[2], [3, 1, 1, 6, 1, 5, 1])
        self.assertEqual(found[3:], [found[0], found[1], found[2], [0]])

    def test_against_fractions(self):
        rows = [[], [7], [1, -2, 3], [0, 0, 0, 5, 0, 0, -6], [-1000, 1000, 1, -1, 500, 3, 999]]
        for left, right, factors in product(rows, rows, [(0, 0), (0, 3), (1, 1), (6, 1000), (1000, 4)]):
            calls = [s.set_polynomial(0, 12, left), s.set_polynomial(1, 90, right)]
            sums = [factors[0] * Fraction(a, 12) + factors[1] * Fraction(b, 90)
                    for a, b in zip(left + [0] * (7 - len(left)), right + [0] * (7 - len(right)))]
            with self.subTest(left=left, right=right, factors=factors):
                found = s.after_create(*calls, s.add_multiples(0, factors[0], 1, factors[1], 3), s.get_polynomial(3))
                self.assertEqual(found[2:], [shown(sums)] * 2)

    def test_factors_belong_to_their_polynomials(self):
        calls = [s.set_polynomial(0, 1, [1]), s.set_polynomial(1, 1, [0, 1])]
        self.assertEqual(s.last(*calls, s.add_multiples(0, 2, 1, 3, 2)), [2, 2, 1, 3, 1])
        self.assertEqual(s.last(*calls, s.add_multiples(1, 2, 0, 3, 2)), [2, 3, 1, 2, 1])

    def test_factor_zero(self):
        calls = [s.set_polynomial(0, 1, [1, 2]), s.set_polynomial(1, 1, [5, 6, 7]), s.set_polynomial(2, 1, [1])]
        self.assertEqual(s.last(*calls, s.add_multiples(0, 0, 1, 1, 2)), [3, 5, 1, 6, 1, 7, 1])
        self.assertEqual(s.last(*calls, s.add_multiples(0, 1, 1, 0, 2)), [2, 1, 1, 2, 1])
        found = s.after_create(*calls, s.add_multiples(0, 0, 1, 0, 2), s.get_polynomial(2))
        self.assertEqual(found[3:], [[0], [0]])

    def test_zero_polynomials(self):
        self.assertEqual(s.last(s.add_multiples(0, 1000, 1, 1000, 2)), [0])
        self.assertEqual(s.last(s.set_polynomial(0, 1, [3]), s.add_multiples(1, 5, 0, 2, 1)), [1, 6, 1])

    def test_target_is_a_source(self):
        calls = [s.set_polynomial(0, 1, [1, 1]), s.set_polynomial(1, 1, [0, 0, 2])]
        for target in (0, 1):
            found = s.after_create(*calls, s.add_multiples(0, 3, 1, 5, target), *s.get_all())
            expected = [[2, 1, 1, 1, 1], [3, 0, 1, 0, 1, 2, 1], [0], [0]]
            expected[target] = [3, 3, 1, 3, 1, 10, 1]
            self.assertEqual(found[2], expected[target])
            self.assertEqual(found[3:], expected)

    def test_all_three_the_same(self):
        found = s.after_create(s.set_polynomial(0, 7, [1, 2]), s.add_multiples(0, 3, 0, 4, 0), s.get_polynomial(0))
        self.assertEqual(found[1:], [[2, 1, 1, 2, 1]] * 2)

    def test_same_source_other_target(self):
        found = s.after_create(s.set_polynomial(0, 1, [1, 2]), s.add_multiples(0, 1, 0, 1, 1), *s.get_all())
        self.assertEqual(found[1:], [[2, 2, 1, 4, 1], [2, 1, 1, 2, 1], [2, 2, 1, 4, 1], [0], [0]])

    def test_later_changes_of_a_source_do_not_reach_the_target(self):
        calls = [s.set_polynomial(0, 1, [1]), s.add_multiples(0, 1, 1, 1, 2), s.set_polynomial(0, 1, [9])]
        self.assertEqual(s.last(*calls, s.get_polynomial(2)), [1, 1, 1])

    def test_last_coefficients_that_cancel(self):
        calls = [s.set_polynomial(0, 1, [1, 2, 0, -3]), s.set_polynomial(1, 2, [1, -4, 0, 6])]
        self.assertEqual(s.last(*calls, s.add_multiples(0, 1, 1, 1, 2)), [1, 3, 2])
        calls = [s.set_polynomial(0, 1, [1, -1]), s.set_polynomial(1, 1, [-1, 1])]
        self.assertEqual(s.last(*calls, s.add_multiples(0, 1000, 1, 1000, 0)), [0])

    def test_no_such_slot(self):
        for slots in ((4, 0, 0), (0, 4, 0), (0, 0, 4), (FAR, FAR, FAR)):
            self.assert_refused(-2, s.add_multiples(slots[0], 1, slots[1], 1, slots[2]))

    def test_factor_outside(self):
        for wrong in (1001, FAR):
            self.assert_refused(-22, s.add_multiples(0, wrong, 1, 1, 2))
            self.assert_refused(-22, s.add_multiples(0, 1, 1, wrong, 2))

    def test_factor_outside_with_zero_polynomials(self):
        self.assertEqual(s.last(s.add_multiples(0, 1001, 1, 0, 2)), [-22])

    def test_greatest_factor(self):
        self.assertEqual(s.last(s.set_polynomial(0, 1, [1]), s.add_multiples(0, 1000, 0, 1000, 1)), [1, 2000, 1])

    def test_slot_is_told_before_factor(self):
        for slots in ((4, 0, 0), (0, 4, 0), (0, 0, 4)):
            self.assert_refused(-2, s.add_multiples(slots[0], 1001, slots[1], 1001, slots[2]))


class Summary(unittest.TestCase):
    def test_after_create(self):
        self.assertEqual(s.run(s.create(), s.summary()), [[0], [4, 0, 0, 0, 0]])

    def test_after_stores(self):
        calls = [s.set_polynomial(0, 3, [1, 0, 2, 0, 0]), s.set_roots(1, 1, [5] * 6), s.set_roots(3, 1, [])]
        self.assertEqual(s.last(*calls, s.summary()), [4, 3, 7, 0, 1])
        more = [s.derivative(1, 2), s.set_polynomial(3, 1, [0, 0])]
        self.assertEqual(s.last(*calls, *more, s.summary()), [4, 3, 7, 6, 0])
        self.assertEqual(s.last(*calls, s.subtract_multiples(1, 2, 1, 2, 0), s.summary()), [4, 0, 7, 0, 1])
        self.assertEqual(s.last(*calls, s.add_multiples(0, 1, 1, 1, 2), s.summary()), [4, 3, 7, 7, 1])

    def test_each_slot_has_its_own_place(self):
        for slot in range(4):
            for count in range(8):
                expected = [4, 0, 0, 0, 0]
                expected[1 + slot] = count
                self.assertEqual(s.last(s.set_polynomial(slot, 1, [1] * count), s.summary()), expected)

    def test_after_refused_stores(self):
        fill = [s.set_roots(slot, 1, [1] * slot) for slot in range(4)]
        refused = [
            s.set_polynomial(0, 1, [1001, 1]), s.set_polynomial(4, 1, [1]), s.set_roots(1, 0, [1, 1]),
            s.add_multiples(3, 1001, 3, 1, 2), s.subtract_multiples(3, 1, 3, 1001, 2), s.derivative(3, 4)]
        found = s.after_create(*fill, *refused, s.summary())
        self.assertEqual(found[-1], [4, 1, 2, 3, 4])
        large = [s.set_polynomial(0, 1, [0, 0, 1]), *s.scaled_by_powers(0, 10), s.derivative(0, 3)]
        found = s.after_create(*fill, *large, s.summary())
        self.assertEqual(found[-2:], [[-75], [4, 3, 2, 3, 4]])

    def test_after_a_second_create(self):
        found = s.run(s.create(), s.set_roots(2, 1, [1]), s.summary(), s.create(), s.summary())
        self.assertEqual(found[2:], [[4, 0, 0, 2, 0], [0], [4, 0, 0, 0, 0]])

    def test_does_not_change(self):
        calls = [s.set_polynomial(1, 2, [1, 2]), *s.get_all(), s.summary(), *s.get_all()]
        found = s.after_create(*calls)
        self.assertEqual(found[1:5], found[6:])


class TooLarge(Kept):
    def test_numerator_at_the_limit(self):
        for sign in (1, -1):
            calls = [s.set_polynomial(0, 1, [sign]), *s.scaled_by_powers(0, 10)]
            found = s.after_create(*calls, s.get_polynomial(0))
            self.assertEqual(found[-2:], [[1, sign * TOP, 1]] * 2)

    def test_numerator_just_above_the_limit(self):
        for sign in (1, -1):
            before = [s.set_polynomial(0, 1, [sign]), *s.scaled_by_powers(0, 10), s.set_polynomial(1, 1, [sign])]
            for target in range(4):
                self.assert_refused(-75, s.add_multiples(0, 1, 1, 1, target), *before)

    def test_numerator_of_a_fraction_above_the_limit(self):
        before = [s.set_polynomial(0, 7, [1]), *s.scaled_by_powers(0, 10), s.set_polynomial(1, 7, [1])]
        self.assertEqual(s.last(*before, s.get_polynomial(0)), [1, TOP, 7])
        self.assert_refused(-75, s.add_multiples(0, 1, 1, 1, 0), *before)

    def test_each_coefficient_counts(self):
        for power in range(7):
            row = [0] * power + [1] + [0] * (6 - power)
            before = [s.set_polynomial(0, 1, row), *s.scaled_by_powers(0, 10), s.set_polynomial(1, 1, [1] * 7)]
            self.assertEqual(s.last(*before, s.get_polynomial(0))[2 * power + 1], TOP)
            self.assert_refused(-75, s.add_multiples(0, 1, 1, 1, 2), *before)

    def test_steps_that_cancel_may_be_larger(self):
        calls = [s.set_polynomial(0, 1, [1, 1]), *s.scaled_by_powers(0, 10),
                 s.set_polynomial(1, 1, [-1]), *s.scaled_by_powers(1, 10)]
        self.assertEqual(s.last(*calls, s.add_multiples(0, 1, 1, 1, 2)), [2, 0, 1, TOP, 1])
        self.assertEqual(s.last(*calls, s.set_polynomial(0, 1, [1]), *s.scaled_by_powers(0, 10),
                                s.add_multiples(0, 1000, 1, 1000, 2)), [0])

    def test_denominator_just_below_the_limit(self):
        # 271 and 369 have no common divisor, and their product is 99999.
        calls = [s.set_roots(0, 271, [1] * 6), s.set_roots(1, 369, [1] * 6)]
        found = s.after_create(*calls, s.add_multiples(0, 1, 1, 1, 2), s.get_polynomial(2))
        self.assertEqual(found[-1], found[-2])
        self.assertEqual(found[-1][:3], [7, 271 ** 6 + 369 ** 6, 99999 ** 6])

    def test_denominator_just_above_the_limit(self):
        # 295 and 339 have no common divisor, and their product is 100005.
        before = [s.set_roots(0, 295, [1] * 6), s.set_roots(1, 339, [1] * 6)]
        for target in range(4):
            self.assert_refused(-75, s.add_multiples(0, 1, 1, 1, target), *before)

    def test_lowest_terms_are_what_counts(self):
        calls = [s.set_roots(0, 1000, [1] * 6), s.add_multiples(0, 1, 0, 1, 1)]
        self.assertEqual(s.last(*calls)[:3], [7, 1, 5 * 10 ** 17])

    def test_slot_and_factor_are_told_first(self):
        before = [s.set_polynomial(0, 1, [1]), *s.scaled_by_powers(0, 10)]
        self.assert_refused(-75, s.add_multiples(0, 2, 0, 2, 0), *before)
        self.assert_refused(-22, s.add_multiples(0, 1001, 0, 2, 0), *before)
        self.assert_refused(-2, s.add_multiples(0, 2, 0, 2, 4), *before)


if __name__ == "__main__":
    unittest.main()
