"""subtract_multiples and derivative."""

import unittest
from fractions import Fraction
from itertools import product

import session as s
from checks import FAR, TOP, Kept, shown

ROWS = [[], [7], [1, -2, 3], [0, 0, 0, 5, 0, 0, -6], [-1000, 1000, 1, -1, 500, 3, 999]]


def large(slot, first, power, last):
    """Calls that set a slot to (first * 10 ** 29 + last) * x ** power; they use slot 3."""
    zeros = [0] * power
    return [
        s.set_polynomial(slot, 1, zeros + [first]), *s.scaled_by_powers(slot, 9),
        s.add_multiples(slot, 100, slot, 0, slot),
        s.set_polynomial(3, 1, zeros + [last]), s.add_multiples(slot, 1, 3, 1, slot)]


class SubtractMultiples(Kept):
    def test_ordinary(self):
        calls = [s.set_polynomial(0, 2, [1, 3]), s.set_polynomial(1, 3, [-1, 0, 5])]
        found = s.after_create(*calls, s.subtract_multiples(0, 4, 1, 3, 2), *s.get_all())
        self.assertEqual(found[2], [3, 3, 1, 6, 1, -5, 1])
        self.assertEqual(found[3:], [found[0], found[1], found[2], [0]])

    def test_against_fractions(self):
        for left, right, factors in product(ROWS, ROWS, [(0, 0), (0, 3), (1, 1), (6, 1000), (1000, 4)]):
            calls = [s.set_polynomial(0, 12, left), s.set_polynomial(1, 90, right)]
            differences = [factors[0] * Fraction(a, 12) - factors[1] * Fraction(b, 90)
                           for a, b in zip(left + [0] * (7 - len(left)), right + [0] * (7 - len(right)))]
            with self.subTest(left=left, right=right, factors=factors):
                call = s.subtract_multiples(0, factors[0], 1, factors[1], 3)
                found = s.after_create(*calls, call, s.get_polynomial(3))
                self.assertEqual(found[2:], [shown(differences)] * 2)

    def test_second_is_taken_from_first(self):
        calls = [s.set_polynomial(0, 1, [1]), s.set_polynomial(1, 1, [0, 1])]
        self.assertEqual(s.last(*calls, s.subtract_multiples(0, 2, 1, 3, 2)), [2, 2, 1, -3, 1])
        self.assertEqual(s.last(*calls, s.subtract_multiples(1, 2, 0, 3, 2)), [2, -3, 1, 2, 1])

    def test_factor_zero(self):
        calls = [s.set_polynomial(0, 1, [1, 2]), s.set_polynomial(1, 1, [5, 6, 7]), s.set_polynomial(2, 1, [1])]
        self.assertEqual(s.last(*calls, s.subtract_multiples(0, 0, 1, 1, 2)), [3, -5, 1, -6, 1, -7, 1])
        self.assertEqual(s.last(*calls, s.subtract_multiples(0, 1, 1, 0, 2)), [2, 1, 1, 2, 1])
        found = s.after_create(*calls, s.subtract_multiples(0, 0, 1, 0, 2), s.get_polynomial(2))
        self.assertEqual(found[3:], [[0], [0]])

    def test_zero_polynomials(self):
        self.assertEqual(s.last(s.subtract_multiples(0, 1000, 1, 1000, 2)), [0])
        self.assertEqual(s.last(s.set_polynomial(0, 1, [3]), s.subtract_multiples(1, 5, 0, 2, 1)), [1, -6, 1])

    def test_difference_that_is_zero(self):
        calls = [s.set_polynomial(0, 6, [3, -2, 5]), s.set_polynomial(1, 3, [3, -2, 5]), s.set_polynomial(2, 1, [8])]
        found = s.after_create(*calls, s.subtract_multiples(0, 1000, 1, 500, 2), s.get_polynomial(2))
        self.assertEqual(found[3:], [[0], [0]])
        found = s.after_create(*calls, s.subtract_multiples(0, 7, 0, 7, 0), s.get_polynomial(0))
        self.assertEqual(found[3:], [[0], [0]])

    def test_difference_of_smaller_degree(self):
        calls = [s.set_polynomial(0, 1, [1, 2, 0, 3]), s.set_polynomial(1, 2, [1, 4, 0, 6])]
        found = s.after_create(*calls, s.subtract_multiples(0, 1, 1, 1, 2), s.get_polynomial(2))
        self.assertEqual(found[2:], [[1, 1, 2]] * 2)
        calls = [s.set_polynomial(0, 1, [0, 0, 5, 1]), s.set_polynomial(1, 1, [0, 2, 0, 1])]
        self.assertEqual(s.last(*calls, s.subtract_multiples(0, 1, 1, 1, 2)), [3, 0, 1, -2, 1, 5, 1])

    def test_target_is_a_source(self):
        calls = [s.set_polynomial(0, 1, [1, 1]), s.set_polynomial(1, 1, [0, 0, 2])]
        for target in (0, 1):
            found = s.after_create(*calls, s.subtract_multiples(0, 3, 1, 5, target), *s.get_all())
            expected = [[2, 1, 1, 1, 1], [3, 0, 1, 0, 1, 2, 1], [0], [0]]
            expected[target] = [3, 3, 1, 3, 1, -10, 1]
            self.assertEqual(found[2], expected[target])
            self.assertEqual(found[3:], expected)

    def test_all_three_the_same(self):
        found = s.after_create(s.set_polynomial(0, 7, [1, 2]), s.subtract_multiples(0, 3, 0, 4, 0), s.get_polynomial(0))
        self.assertEqual(found[1:], [[2, -1, 7, -2, 7]] * 2)

    def test_same_source_other_target(self):
        found = s.after_create(s.set_polynomial(0, 1, [1, 2]), s.subtract_multiples(0, 3, 0, 1, 1), *s.get_all())
        self.assertEqual(found[1:], [[2, 2, 1, 4, 1], [2, 1, 1, 2, 1], [2, 2, 1, 4, 1], [0], [0]])

    def test_no_such_slot(self):
        for slots in ((4, 0, 0), (0, 4, 0), (0, 0, 4), (FAR, FAR, FAR)):
            self.assert_refused(-2, s.subtract_multiples(slots[0], 1, slots[1], 1, slots[2]))

    def test_factor_outside(self):
        for wrong in (1001, FAR):
            self.assert_refused(-22, s.subtract_multiples(0, wrong, 1, 1, 2))
            self.assert_refused(-22, s.subtract_multiples(0, 1, 1, wrong, 2))
            self.assert_refused(-22, s.subtract_multiples(0, wrong, 0, wrong, 0))

    def test_factor_outside_with_zero_polynomials(self):
        self.assertEqual(s.last(s.subtract_multiples(0, 1001, 1, 0, 2)), [-22])
        self.assertEqual(s.last(s.subtract_multiples(0, 0, 1, 1001, 2)), [-22])

    def test_greatest_factor(self):
        setting = [s.set_polynomial(0, 1, [1]), s.set_polynomial(1, 1, [-1])]
        self.assertEqual(s.last(*setting, s.subtract_multiples(0, 1000, 1, 1000, 2)), [1, 2000, 1])
        self.assertEqual(s.last(*setting, s.subtract_multiples(1, 1000, 0, 1000, 2)), [1, -2000, 1])

    def test_slot_is_told_before_factor(self):
        for slots in ((4, 0, 0), (0, 4, 0), (0, 0, 4)):
            self.assert_refused(-2, s.subtract_multiples(slots[0], 1001, slots[1], 1001, slots[2]))


class DifferenceTooLarge(Kept):
    def test_numerator_at_the_limit(self):
        for sign in (1, -1):
            # From 10 ** 30 one is taken, and put back again.
            calls = [s.set_polynomial(0, 1, [sign]), *s.scaled_by_powers(0, 10), s.set_polynomial(1, 1, [sign]),
                     s.subtract_multiples(0, 1, 1, 1, 0), s.set_polynomial(1, 1, [-sign])]
            found = s.after_create(*calls, s.subtract_multiples(0, 1, 1, 1, 0), s.get_polynomial(0))
            self.assertEqual(found[-4], [1, sign * (TOP - 1), 1])
            self.assertEqual(found[-2:], [[1, sign * TOP, 1]] * 2)

    def test_numerator_just_above_the_limit(self):
        for sign in (1, -1):
            before = [s.set_polynomial(0, 1, [sign]), *s.scaled_by_powers(0, 10), s.set_polynomial(1, 1, [-sign])]
            for target in range(4):
                self.assert_refused(-75, s.subtract_multiples(0, 1, 1, 1, target), *before)
                self.assert_refused(-75, s.subtract_multiples(1, 1, 0, 1, target), *before)

    def test_numerator_of_a_fraction_above_the_limit(self):
        before = [s.set_polynomial(0, 7, [1]), *s.scaled_by_powers(0, 10), s.set_polynomial(1, 7, [-1])]
        self.assert_refused(-75, s.subtract_multiples(0, 1, 1, 1, 0), *before)

    def test_each_coefficient_counts(self):
        for power in range(7):
            row = [0] * power + [1] + [0] * (6 - power)
            before = [s.set_polynomial(0, 1, row), *s.scaled_by_powers(0, 10), s.set_polynomial(1, 1, [-1] * 7)]
            self.assert_refused(-75, s.subtract_multiples(0, 1, 1, 1, 2), *before)

    def test_steps_that_cancel_may_be_larger(self):
        calls = [s.set_polynomial(0, 1, [1, 1]), *s.scaled_by_powers(0, 10),
                 s.set_polynomial(1, 1, [1]), *s.scaled_by_powers(1, 10)]
        self.assertEqual(s.last(*calls, s.subtract_multiples(0, 1, 1, 1, 2)), [2, 0, 1, TOP, 1])
        self.assertEqual(s.last(*calls, s.subtract_multiples(1, 1000, 1, 1000, 2)), [0])
        self.assertEqual(s.last(*calls, s.subtract_multiples(1, 1000, 1, 999, 2)), [1, TOP, 1])

    def test_denominator_just_below_the_limit(self):
        # 271 and 369 have no common divisor, and their product is 99999.
        calls = [s.set_roots(0, 271, [1] * 6), s.set_roots(1, 369, [1] * 6)]
        found = s.after_create(*calls, s.subtract_multiples(0, 1, 1, 1, 2), s.get_polynomial(2))
        self.assertEqual(found[-1], found[-2])
        self.assertEqual(found[-1][:3], [6, 369 ** 6 - 271 ** 6, 99999 ** 6])

    def test_denominator_just_above_the_limit(self):
        # 295 and 339 have no common divisor, and their product is 100005.
        before = [s.set_roots(0, 295, [1] * 6), s.set_roots(1, 339, [1] * 6)]
        for target in range(4):
            self.assert_refused(-75, s.subtract_multiples(0, 1, 1, 1, target), *before)

    def test_slot_and_factor_are_told_first(self):
        before = [s.set_polynomial(0, 1, [1]), *s.scaled_by_powers(0, 10)]
        self.assert_refused(-75, s.subtract_multiples(0, 4, 0, 2, 0), *before)
        self.assert_refused(-22, s.subtract_multiples(0, 1001, 0, 2, 0), *before)
        self.assert_refused(-22, s.subtract_multiples(0, 4, 0, 1001, 0), *before)
        self.assert_refused(-2, s.subtract_multiples(0, 4, 0, 2, 4), *before)


class Derivative(Kept):
    def test_ordinary(self):
        found = s.after_create(s.set_polynomial(0, 6, [5, 3, -2, 4]), s.derivative(0, 2), *s.get_all())
        self.assertEqual(found[1], [3, 1, 2, -2, 3, 2, 1])
        self.assertEqual(found[2:], [found[0], [0], found[1], [0]])

    def test_against_fractions(self):
        rows = ROWS + [[0, 1], [0, 0, 1], [3, 0, 0, 0, 0, 0, 1], [1, 2, 3, 4, 5, 6, 7]]
        for row, denominator in product(rows, (1, 12, 720, 999)):
            expected = [power * Fraction(number, denominator) for power, number in enumerate(row)][1:]
            with self.subTest(row=row, denominator=denominator):
                found = s.after_create(s.set_polynomial(1, denominator, row), s.derivative(1, 3), s.get_polynomial(3))
                self.assertEqual(found[1:], [shown(expected)] * 2)

    def test_of_zero_and_of_a_constant(self):
        fill = s.set_polynomial(2, 1, [1, 2])
        for setting in ([], [s.set_polynomial(0, 1, [9])], [s.set_polynomial(0, 7, [-3])]):
            found = s.after_create(*setting, fill, s.derivative(0, 2), s.get_polynomial(2))
            self.assertEqual(found[-2:], [[0], [0]])

    def test_of_degree_one(self):
        self.assertEqual(s.last(s.set_polynomial(0, 3, [8, -2]), s.derivative(0, 1)), [1, -2, 3])

    def test_target_is_the_source(self):
        for slot in range(4):
            found = s.after_create(s.set_polynomial(slot, 1, [1, 2, 3]), s.derivative(slot, slot), *s.get_all())
            expected = [[0]] * 4
            expected[slot] = [2, 2, 1, 6, 1]
            self.assertEqual(found[1:], [expected[slot]] + expected)

    def test_again_and_again(self):
        calls = [s.set_polynomial(0, 1, [1] * 7)] + [s.derivative(0, 0)] * 8
        counts = [answer[0] for answer in s.after_create(*calls)]
        self.assertEqual(counts, [7, 6, 5, 4, 3, 2, 1, 0, 0])
        self.assertEqual(s.after_create(*calls)[6], [1, 720, 1])

    def test_no_such_slot(self):
        for source, target in ((4, 0), (0, 4), (4, 4), (FAR, 1), (1, FAR)):
            self.assert_refused(-2, s.derivative(source, target))

    def test_zero_is_no_fault_but_a_wrong_target_is(self):
        self.assertEqual(s.after_create(s.derivative(0, 4), s.derivative(4, 0), s.derivative(0, 0)), [[-2], [-2], [0]])

    def test_numerator_at_the_limit(self):
        for sign in (1, -1):
            # 10 ** 30 * x, and the half of 10 ** 30 * x ** 2
            for setting in (large(0, 10 * sign, 1, 0), large(0, 5 * sign, 2, 0)):
                found = s.after_create(*setting, s.derivative(0, 1), s.get_polynomial(1))
                self.assertEqual(found[-2][-2:], [sign * TOP, 1])
                self.assertEqual(found[-1], found[-2])

    def test_numerator_just_above_the_limit(self):
        for sign in (1, -1):
            before = large(0, 5 * sign, 2, sign)
            self.assertEqual(s.last(*before, s.get_polynomial(0))[-2:], [sign * (TOP // 2 + 1), 1])
            for target in range(4):
                self.assert_refused(-75, s.derivative(0, target), *before)

    def test_each_coefficient_counts(self):
        for power in range(2, 7):
            others = [1] * power + [0] + [1] * (6 - power)
            before = [s.set_polynomial(0, 1, [0] * power + [1]), *s.scaled_by_powers(0, 10),
                      s.set_polynomial(1, 1, others), s.add_multiples(0, 1, 1, 1, 0)]
            self.assertEqual(s.last(*before, s.get_polynomial(0))[2 * power + 1], TOP)
            self.assert_refused(-75, s.derivative(0, 2), *before)

    def test_constant_does_not_count(self):
        calls = [s.set_polynomial(0, 1, [1]), *s.scaled_by_powers(0, 10), s.set_polynomial(1, 1, [0, 3]),
                 s.add_multiples(0, 1, 1, 1, 0)]
        self.assertEqual(s.last(*calls, s.derivative(0, 0)), [1, 3, 1])

    def test_numerator_of_a_fraction(self):
        setting = [s.set_polynomial(0, 7, [0, 0, 1]), *s.scaled_by_powers(0, 10)]
        self.assertEqual(s.last(*setting, s.get_polynomial(0))[-2:], [TOP, 7])
        self.assert_refused(-75, s.derivative(0, 0), *setting)
        setting = [s.set_polynomial(0, 7, [0, 1]), *s.scaled_by_powers(0, 10)]
        self.assertEqual(s.last(*setting, s.derivative(0, 0)), [1, TOP, 7])

    def test_lowest_terms_are_what_counts(self):
        setting = [s.set_polynomial(0, 3, [0, 0, 0, 1]), *s.scaled_by_powers(0, 10)]
        self.assertEqual(s.last(*setting, s.get_polynomial(0))[-2:], [TOP, 3])
        self.assertEqual(s.last(*setting, s.derivative(0, 1)), [3, 0, 1, 0, 1, TOP, 1])

    def test_great_denominators(self):
        setting = [s.set_roots(0, 271, [1] * 6), s.set_roots(1, 369, [1] * 6), s.add_multiples(0, 1, 1, 1, 0)]
        # The coefficient of x is the sum of -6 / 271 ** 5 and -6 / 369 ** 5; 369 is a multiple of 3.
        found = s.last(*setting, s.derivative(0, 2))
        self.assertEqual(found[1:3], [-2 * (271 ** 5 + 369 ** 5), 99999 ** 5 // 3])

    def test_slot_is_told_first(self):
        self.assert_refused(-2, s.derivative(0, 4), *large(0, 5, 2, 1))


if __name__ == "__main__":
    unittest.main()
