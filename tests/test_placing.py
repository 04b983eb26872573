"""first_large_lead, min_root_gap and interlacing_interval."""

import unittest
from fractions import Fraction
from math import floor, isqrt

import session as s
from checks import FAR, Asking, polynomials, roots

ALL_BITS = range(21)
WRONG_BITS = (21, 22, 1000, FAR)


def floor_of(root, bits):
    """The floor of a rational root, worked out with Python's own fractions."""
    return floor(Fraction(root) * 2 ** bits)


def square_root_floor(number, bits, sign=1):
    """The floor of the square root of a number that is no square, or of minus this root."""
    below = isqrt(number * 4 ** bits)
    return below if sign > 0 else -below - 1


def near_one(slot, constant):
    """Calls that set a slot to 10 ** 30 / 2 * (x - 1) ** 2 + constant; they use slot 3."""
    return [s.set_polynomial(slot, 2, [1, -2, 1]), *s.scaled_by_powers(slot, 10),
            s.set_polynomial(3, 1, [constant]), s.add_multiples(slot, 1, 3, 1, slot)]


def near_a_third(slot):
    """Calls that set a slot to 10 ** 27 * (x - 1 / 3) ** 2 - 1; they use slot 3."""
    return [s.set_polynomial(slot, 9, [1, -6, 9]), *s.scaled_by_powers(slot, 9),
            s.set_polynomial(3, 1, [1]), s.subtract_multiples(slot, 1, 3, 1, slot)]


def smallest_step(slot):
    """Calls that set a slot to 2 ** 22 * x ** 2 - 1 / 2 ** 18, with the roots -1 / 2 ** 20 and 1 / 2 ** 20.

    They use slot 3.
    """
    return [s.set_polynomial(3, 1, [0, 0, 1]), s.add_multiples(3, 512, 3, 512, 3), s.add_multiples(3, 512, 3, 512, 3),
            s.add_multiples(3, 2, 3, 2, 3), s.set_roots(slot, 512, [-1, 1]), s.add_multiples(slot, 1, 3, 1, slot),
            s.set_polynomial(3, 1, [0, 0, 1]), s.subtract_multiples(slot, 1, 3, 1, slot)]


class Floors(Asking):
    """The floors themselves, as the interval of a polynomial with itself shows them."""

    def assert_floors(self, setting, bits, floors):
        """The floors of all roots of slot 0, in ascending order; it is real-rooted and of degree 2 or more."""
        calls = [s.interlacing_interval(0, 0, index, bits) for index in range(len(floors) - 1)]
        found = s.after_create(*setting, *calls)[len(setting):]
        self.assertEqual(found, [[0, low, high] for low, high in zip(floors, floors[1:])], (setting, bits))

    def assert_rational(self, denominator, numerators):
        for bits in ALL_BITS:
            floors = [floor_of(Fraction(numerator, denominator), bits) for numerator in sorted(numerators)]
            self.assert_floors([s.set_roots(0, denominator, numerators)], bits, floors)

    def test_whole_roots(self):
        self.assert_rational(1, [-1000, -3, -1, 0, 1, 1000])
        self.assert_rational(1, [2, 4, 5, 6, 7, 8])

    def test_roots_that_are_not_whole(self):
        self.assert_rational(3, [-5, -2, -1, 1, 2, 5])
        self.assert_rational(1000, [-999, -501, -1, 1, 499, 999])
        self.assert_rational(7, [-1000, -999, 999, 1000])

    def test_multiples_of_the_step(self):
        self.assert_rational(2, [-3, -1, 1, 3])
        self.assert_rational(8, [-9, -7, -1, 1, 7, 9])
        self.assert_rational(512, [-1000, -513, -1, 1, 511, 1000])

    def test_multiples_of_the_smallest_step(self):
        setting = smallest_step(0)
        self.assertEqual(s.last(*setting, s.get_polynomial(0)), [3, -1, 2 ** 18, 0, 1, 2 ** 22, 1])
        self.assert_floors(setting, 20, [-1, 1])
        for bits in range(20):
            self.assert_floors(setting, bits, [-1, 0])

    def test_irrational_roots(self):
        for number in (2, 3, 999):
            for bits in ALL_BITS:
                floors = [square_root_floor(number, bits, -1), square_root_floor(number, bits)]
                self.assert_floors(polynomials([-number, 0, 1]), bits, floors)
                self.assert_floors(polynomials([number, 0, -1]), bits, floors)

    def test_multiple_roots(self):
        self.assert_rational(3, [-2, -2, 1, 1, 1, 4])
        self.assert_rational(1, [5] * 6)
        for bits in ALL_BITS:
            low, high = square_root_floor(2, bits, -1), square_root_floor(2, bits)
            self.assert_floors(polynomials([4, 0, -4, 0, 1]), bits, [low, low, high, high])
            self.assert_floors(polynomials([0, 0, -2, 0, 1]), bits, [low, 0, 0, high])

    def test_last_coefficient_below_zero(self):
        self.assert_floors(polynomials([-2, 3, -1]), 3, [8, 16])

    def test_very_near_roots(self):
        for bits in ALL_BITS:
            self.assert_floors(near_one(0, -1), bits, [2 ** bits - 1, 2 ** bits])
            self.assert_floors(near_one(0, 0), bits, [2 ** bits, 2 ** bits])
            self.assert_floors(near_a_third(0), bits, [2 ** bits // 3] * 2)

    def test_roots_far_from_zero(self):
        # x ** 2 - 10 ** 30
        setting = [s.set_polynomial(0, 1, [1]), *s.scaled_by_powers(0, 10), s.set_polynomial(1, 1, [0, 0, 1]),
                   s.subtract_multiples(1, 1, 0, 1, 0)]
        for bits in ALL_BITS:
            self.assert_floors(setting, bits, [-10 ** 15 * 2 ** bits, 10 ** 15 * 2 ** bits])
        setting += [s.set_polynomial(1, 1, [1]), s.add_multiples(0, 1, 1, 1, 0)]
        for bits in ALL_BITS:
            floors = [square_root_floor(10 ** 30 - 1, bits, -1), square_root_floor(10 ** 30 - 1, bits)]
            self.assert_floors(setting, bits, floors)


class FirstLargeLead(Asking):
    def assert_floor(self, setting, bits, expected):
        """The answer, and the same one with the slots changed round."""
        self.assert_all(setting, s.first_large_lead(0, 1, bits), [0, expected])
        self.assert_all(setting, s.first_large_lead(1, 0, bits), [0, expected])

    def assert_none(self, setting):
        for bits in (0, 20):
            self.assert_all(setting, s.first_large_lead(0, 1, bits), [-34])
            self.assert_all(setting, s.first_large_lead(1, 0, bits), [-34])

    def test_lead_of_two(self):
        self.assert_floor(roots([5, 7], [1, 3]), 0, 5)
        self.assert_floor(roots([5, 7], [1, 3]), 3, 40)
        self.assert_floor(roots([5, 7, 9], [8, 1, 3]), 0, 5)

    def test_lead_of_one_is_not_large(self):
        self.assert_none(roots([0, 2], [1]))
        self.assert_none(roots([0, 2], [1, 3]))
        self.assert_none(roots([0, 3], [1, 2]))
        self.assert_none(roots([1], []))
        self.assert_none(roots([1, 1], [1]))
        self.assert_none(roots([1, 1, 2], [1, 2, 2]))

    def test_the_greatest_one_counts(self):
        # Leads from the greatest joint root down: 1, 2, 1, 0, -1, -2, -3
        self.assert_floor(roots([9, 8], [7, 6, 5, 4, 3]), 0, 8)
        self.assert_floor(roots([9, 8, 7, 6], [1]), 1, 16)
        # 1, 0, -1, -2, -1, 0, 1, 2
        self.assert_floor(roots([9, 5, 4, 3, 2], [8, 7, 6]), 0, 6)

    def test_multiple_roots(self):
        self.assert_floor(roots([4, 4], [1]), 0, 4)
        self.assert_floor(roots([4, 4, 4], [4]), 0, 4)
        self.assert_none(roots([4, 2, 2], [4, 3]))
        self.assert_floor(roots([4, 2, 2], [4]), 0, 2)
        self.assert_floor(roots([4, 2, 2, 2], [4, 2]), 2, 8)

    def test_root_of_both(self):
        # The lead is 1 after 5 and 2 after 3; the lower roots do not matter.
        self.assert_floor(roots([5, 3, 3], [3]), 0, 3)
        self.assert_floor(roots([5, 3, 3, -7, -9, -9], [3, -9, -8]), 0, 3)
        self.assert_none(roots([5, 3, 3], [4, 3]))

    def test_lower_roots(self):
        self.assert_floor(roots([1, -2], [9, 8, -5, -5]), 0, 8)
        self.assert_floor(roots([8, 6, 1, -2], [7, 3, 2, 2, -2]), 0, 2)

    def test_multiple_root_passed_over(self):
        # Leads 1, -1, 0: after a double root of the second.
        self.assert_none(roots([9, 1], [5, 5]))
        self.assert_floor(roots([9, 1, 0], [5, 5, 5]), 0, 5)

    def test_negative_floors(self):
        setting = [s.set_roots(0, 3, [-1, -2]), s.set_roots(1, 1, [-5])]
        for bits in ALL_BITS:
            self.assert_floor(setting, bits, floor_of(Fraction(-2, 3), bits))

    def test_every_number_of_bits(self):
        for bits in ALL_BITS:
            self.assert_floor(roots([5, 7], []), bits, 5 * 2 ** bits)
            self.assert_floor(polynomials([-2, 0, 1], [4]), bits, square_root_floor(2, bits, -1))
            self.assert_floor(polynomials([4, 0, -4, 0, 1], [1, 0, 1]), bits, square_root_floor(2, bits))

    def test_irrational_root_among_others(self):
        # The joint roots are -3, -sqrt(2), 0, sqrt(2) and 2; the leads from above 1, 2, 3, 4, 3.
        self.assert_floor(polynomials([0, 4, -2, -2, 1], [3, 1]), 4, square_root_floor(2, 4))

    def test_not_real_rooted(self):
        self.assert_floor(polynomials([0, 0, 1, 0, 1], [1, 0, 1]), 5, 0)
        self.assert_floor(polynomials([-1, 0, 0, 0, 1], [9]), 5, -32)
        self.assert_none(polynomials([1, 0, 1], [4, 0, 1]))
        self.assert_none(polynomials([-1, 0, 0, 1], [1, 0, 1]))

    def test_constants(self):
        self.assert_none(polynomials([3], [-5]))
        self.assert_floor(polynomials([3], [0, 0, 7]), 20, 0)

    def test_same_slot(self):
        for row in ([5], [1, 0, 1], [0, 0, 0, 1], [-6, 11, -6, 1]):
            self.assert_all(polynomials(row), s.first_large_lead(0, 0, 4), [-34])

    def test_very_near_roots(self):
        # Both roots of slot 0 lie around 1, that of slot 1 is 1; then slot 1 has none.
        setting = near_one(0, -1)
        self.assert_none(setting + [s.set_roots(1, 1, [1])])
        for bits in ALL_BITS:
            self.assert_floor(setting + [s.set_polynomial(1, 1, [1])], bits, 2 ** bits - 1)

    def test_every_pair_of_slots(self):
        for first in range(4):
            for second in range(4):
                if first != second:
                    call = s.first_large_lead(first, second, 0)
                    self.assert_all([s.set_roots(first, 1, [3, 4]), s.set_roots(second, 1, [9])], call, [-34])
                    self.assert_all([s.set_roots(first, 1, [3, 4]), s.set_roots(second, 1, [2])], call, [0, 3])

    def test_bits_outside(self):
        for bits in WRONG_BITS:
            self.assert_all(roots([5, 7], [1, 3]), s.first_large_lead(0, 1, bits), [-22])
            self.assert_nothing_changes(s.first_large_lead(0, 1, bits))

    def test_errors_in_their_order(self):
        for bits in (0, 20) + WRONG_BITS:
            self.assert_pair_errors(lambda first, second: s.first_large_lead(first, second, bits))
        # Bits are told ahead of a root that is not there.
        self.assert_all(roots([1], [2]), s.first_large_lead(0, 1, 21), [-22])
        self.assert_all(roots([1], [2]), s.first_large_lead(0, 1, 20), [-34])
        self.assert_nothing_changes(s.first_large_lead(0, 0, 20))

    def test_nothing_changes(self):
        self.assert_nothing_changes(s.first_large_lead(3, 1, 3))
        self.assert_nothing_changes(s.first_large_lead(0, 3, 3))


class MinRootGap(Asking):
    def assert_gap(self, setting, bits, expected):
        self.assert_all(setting, s.min_root_gap(0, bits), [0, expected])

    def test_whole_roots(self):
        self.assert_gap(roots([0, 2]), 0, 2)
        self.assert_gap(roots([1, 5, 8, 20]), 0, 3)
        self.assert_gap(roots([20, 1, 8, 5]), 0, 3)
        self.assert_gap(roots([-10, -3, 3, 10]), 0, 6)
        for bits in ALL_BITS:
            self.assert_gap(roots([-1000, 1, 4, 1000]), bits, 3 * 2 ** bits)

    def test_place_of_the_smallest_gap(self):
        self.assert_gap(roots([0, 1, 10, 20]), 0, 1)
        self.assert_gap(roots([0, 10, 11, 20]), 0, 1)
        self.assert_gap(roots([0, 10, 20, 21]), 0, 1)

    def test_floors_are_what_is_compared(self):
        # The roots 9 / 10 and 11 / 10 lie nearer to one another than 11 / 10 and 19 / 10.
        self.assert_gap([s.set_roots(0, 10, [9, 11, 19])], 0, 0)
        self.assert_gap([s.set_roots(0, 10, [9, 11])], 0, 1)
        self.assert_gap([s.set_roots(0, 10, [11, 19])], 0, 0)
        self.assert_gap([s.set_roots(0, 10, [-1, 1])], 0, 1)
        for bits in ALL_BITS:
            floors = [floor_of(Fraction(numerator, 7), bits) for numerator in (-5, -2, 2, 8)]
            gap = min(high - low for low, high in zip(floors, floors[1:]))
            self.assert_gap([s.set_roots(0, 7, [-5, -2, 2, 8])], bits, gap)

    def test_same_floor(self):
        self.assert_gap([s.set_roots(0, 1000, [1, 999])], 0, 0)
        self.assert_gap([s.set_roots(0, 1000, [1, 999])], 1, 1)
        self.assert_gap([s.set_roots(0, 1000, [-1, -999])], 0, 0)
        self.assert_gap([s.set_roots(0, 1000, [0, 999])], 0, 0)
        self.assert_gap([s.set_roots(0, 1000, [0, 1000])], 0, 1)

    def test_multiple_roots_are_one_root(self):
        self.assert_gap(roots([1, 1, 4]), 0, 3)
        self.assert_gap(roots([1, 1, 1, 6, 6, 6]), 2, 20)
        self.assert_gap(polynomials([4, 0, -4, 0, 1]), 0, 3)

    def test_irrational_roots(self):
        for bits in ALL_BITS:
            gap = square_root_floor(2, bits) - square_root_floor(2, bits, -1)
            self.assert_gap(polynomials([-2, 0, 1]), bits, gap)

    def test_roots_that_are_not_real_are_left_out(self):
        self.assert_gap(polynomials([-1, 0, 0, 0, 1]), 3, 16)
        self.assert_gap(polynomials([0, -1, 0, 0, 0, 1]), 3, 8)

    def test_very_near_roots(self):
        for bits in ALL_BITS:
            self.assert_gap(near_one(0, -1), bits, 1)
            self.assert_gap(near_a_third(0), bits, 0)

    def test_fewer_than_two_roots(self):
        for row in ([5], [-5], [1, 2], [1, 0, 1], [-1, 0, 0, 1], [0, 0, 0, 7], [4, -4, 1]):
            for bits in (0, 20):
                self.assert_all(polynomials(row), s.min_root_gap(0, bits), [-34])
        self.assert_all(roots([3] * 6), s.min_root_gap(0, 0), [-34])

    def test_every_slot(self):
        for slot in range(4):
            self.assert_all([s.set_roots(slot, 1, [1, 8])], s.min_root_gap(slot, 1), [0, 14])

    def test_bits_outside(self):
        for bits in WRONG_BITS:
            self.assert_all(roots([1, 2]), s.min_root_gap(0, bits), [-22])
            self.assert_nothing_changes(s.min_root_gap(0, bits))

    def test_errors_in_their_order(self):
        for bits in (0, 20) + WRONG_BITS:
            for slot in (4, FAR):
                self.assert_all(roots([1, 2]), s.min_root_gap(slot, bits), [-2])
                self.assert_nothing_changes(s.min_root_gap(slot, bits))
            self.assert_all(roots([1, 2]), s.min_root_gap(1, bits), [-33])
            self.assert_nothing_changes(s.min_root_gap(2, bits))
        self.assert_all(roots([1]), s.min_root_gap(0, 21), [-22])
        self.assert_all(roots([1]), s.min_root_gap(0, 20), [-34])

    def test_nothing_changes(self):
        for slot in range(4):
            self.assert_nothing_changes(s.min_root_gap(slot, 7))


class InterlacingInterval(Asking):
    def assert_interval(self, setting, k, bits, low, high):
        """The answer, and the same one with the slots changed round."""
        self.assert_all(setting, s.interlacing_interval(0, 1, k, bits), [0, low, high])
        self.assert_all(setting, s.interlacing_interval(1, 0, k, bits), [0, low, high])

    def assert_refused(self, setting, k, bits, code):
        self.assert_all(setting, s.interlacing_interval(0, 1, k, bits), [code])
        self.assert_all(setting, s.interlacing_interval(1, 0, k, bits), [code])

    def test_ordinary(self):
        self.assert_interval(roots([0, 2], [1, 3]), 0, 2, 4, 8)
        self.assert_interval(roots([0, 3], [1, 2]), 0, 0, 1, 2)
        self.assert_interval(roots([0, 10], [3, 20]), 0, 1, 6, 20)
        self.assert_interval(roots([0, 20], [3, 10]), 0, 1, 6, 20)

    def test_each_k(self):
        setting = roots([0, 10, 20, 30, 40, 50], [1, 9, 21, 29, 42, 48])
        for k, (low, high) in enumerate([(1, 9), (10, 20), (21, 29), (30, 40), (42, 48)]):
            for bits in (0, 7, 20):
                self.assert_interval(setting, k, bits, low * 2 ** bits, high * 2 ** bits)

    def test_k_too_great(self):
        for degree in range(1, 7):
            setting = roots(range(degree), range(degree))
            for k in range(degree - 1):
                self.assert_interval(setting, k, 0, k, k + 1)
            for k in (degree - 1, degree, degree + 1, 60, FAR - 1, FAR):
                self.assert_refused(setting, k, 0, -2)

    def test_constants(self):
        for k in (0, 1, FAR):
            self.assert_refused(polynomials([3], [-7]), k, 0, -2)

    def test_degree_one(self):
        self.assert_refused(roots([1], [5]), 0, 20, -2)

    def test_negative_and_fractions(self):
        setting = [s.set_roots(0, 3, [-5, -1]), s.set_roots(1, 7, [-8, 2])]
        for bits in ALL_BITS:
            self.assert_interval(
                setting, 0, bits, floor_of(Fraction(-8, 7), bits), floor_of(Fraction(-1, 3), bits))

    def test_irrational_roots(self):
        for bits in ALL_BITS:
            low, high = square_root_floor(2, bits, -1), square_root_floor(2, bits)
            self.assert_interval(polynomials([-2, 0, 1], [-3, 0, 1]), 0, bits, low, high)

    def test_roots_in_common(self):
        self.assert_interval(roots([1, 2], [1, 2]), 0, 0, 1, 2)
        self.assert_interval(roots([1, 2], [2, 3]), 0, 3, 16, 16)
        self.assert_interval(roots([1, 3, 5], [1, 4, 5]), 0, 0, 1, 3)
        self.assert_interval(roots([1, 3, 5], [1, 4, 5]), 1, 0, 4, 5)

    def test_multiple_roots(self):
        self.assert_interval(roots([1, 1], [0, 2]), 0, 0, 1, 1)
        self.assert_interval(roots([1, 1, 5], [1, 4, 9]), 0, 0, 1, 1)
        self.assert_interval(roots([1, 1, 5], [1, 4, 9]), 1, 0, 4, 5)
        self.assert_interval(roots([7] * 6, [7] * 6), 4, 1, 14, 14)
        self.assert_interval(polynomials([4, 0, -4, 0, 1], [4, 0, -4, 0, 1]), 1, 0, -2, 1)

    def test_same_floors(self):
        self.assert_interval([s.set_roots(0, 10, [1, 3]), s.set_roots(1, 10, [2, 4])], 0, 0, 0, 0)
        self.assert_interval(near_one(0, -1) + [s.set_roots(1, 1, [1, 1])], 0, 20, 2 ** 20, 2 ** 20)
        self.assert_interval(near_one(0, -1) + [s.set_roots(1, 1, [0, 1])], 0, 20, 2 ** 20 - 1, 2 ** 20)

    def test_last_coefficients_do_not_matter(self):
        self.assert_interval(polynomials([0, 6, -3], [3, -4, 1]), 0, 0, 1, 2)

    def test_same_slot(self):
        self.assert_all(roots([1, 4, 9]), s.interlacing_interval(0, 0, 1, 0), [0, 4, 9])
        self.assert_all(roots([1, 4, 9]), s.interlacing_interval(0, 0, 2, 0), [-2])

    def test_no_common_interlacing(self):
        self.assert_refused(roots([0, 1], [2, 3]), 0, 0, -34)
        self.assert_refused(roots([0, 2], [1]), 0, 0, -34)
        self.assert_refused(polynomials([1, 0, 1], [1, 0, 1]), 0, 0, -34)
        self.assert_refused(roots([1], []), 0, 0, -34)
        self.assert_all(polynomials([1, 0, 1]), s.interlacing_interval(0, 0, 0, 0), [-34])

    def test_no_common_interlacing_is_told_ahead_of_k(self):
        for k in (1, 2, FAR):
            self.assert_refused(roots([0, 1], [2, 3]), k, 0, -34)
            self.assert_refused(roots([0, 2], [1]), k, 20, -34)

    def test_bits_outside(self):
        for bits in WRONG_BITS:
            self.assert_refused(roots([0, 2], [1, 3]), 0, bits, -22)
            # Ahead of no common interlacing, and of k
            self.assert_refused(roots([0, 1], [2, 3]), 0, bits, -22)
            self.assert_refused(roots([0, 2], [1, 3]), 1, bits, -22)
            self.assert_nothing_changes(s.interlacing_interval(0, 0, 0, bits))

    def test_errors_in_their_order(self):
        for bits in (0, 20) + WRONG_BITS:
            for k in (0, FAR):
                self.assert_pair_errors(lambda first, second: s.interlacing_interval(first, second, k, bits))

    def test_nothing_changes(self):
        self.assert_nothing_changes(s.interlacing_interval(0, 3, 0, 5))
        self.assert_nothing_changes(s.interlacing_interval(0, 3, 1, 5))
        self.assert_nothing_changes(s.interlacing_interval(0, 1, 0, 5))


if __name__ == "__main__":
    unittest.main()
