"""What several test files check in the same way."""

import unittest

import session as s

FAR = 4294967295
TOP = 10 ** 30


def shown(fractions):
    """The answer for a polynomial of these coefficients, worked out with Python's own fractions."""
    kept = list(fractions)
    while kept and kept[-1] == 0:
        kept.pop()
    numbers = [len(kept)]
    for fraction in kept:
        numbers += [fraction.numerator, fraction.denominator]
    return numbers


def polynomials(*rows):
    """Calls that set slot 0, 1, .. to whole coefficients."""
    return [s.set_polynomial(slot, 1, row) for slot, row in enumerate(rows)]


def roots(*rows):
    """Calls that set slot 0, 1, .. by whole roots."""
    return [s.set_roots(slot, 1, row) for slot, row in enumerate(rows)]


class Kept(unittest.TestCase):
    def assert_refused(self, code, call, *before):
        """The call answers the code and all slots stay as they were."""
        fill = [s.set_roots(slot, 2, [slot, 7]) for slot in range(4)] + list(before)
        found = s.after_create(*fill, *s.get_all(), call, *s.get_all())
        self.assertEqual(found[-5], [code])
        self.assertEqual(found[-4:], found[-9:-5])


class Asking(unittest.TestCase):
    def assert_all(self, setting, call, expected):
        self.assertEqual(s.last(*setting, call), expected)

    def assert_nothing_changes(self, call):
        """The slots are the same behind the call as ahead of it, whatever it answers."""
        setting = [s.set_roots(0, 3, [1, 2]), s.set_polynomial(1, 7, [5, 0, -9]), s.set_roots(3, 1, [1, 1])]
        found = s.after_create(*setting, *s.get_all(), call, *s.get_all())
        self.assertEqual(found[3:7], found[8:])

    def assert_pair_errors(self, ask):
        """The errors of a call with two slots, in their order."""
        setting = roots([1])
        for first, second in ((4, 0), (0, 4), (4, 4), (FAR, 0), (0, FAR), (4, 1), (1, 4), (2, 5)):
            self.assert_all(setting, ask(first, second), [-2])
            self.assert_nothing_changes(ask(first, second))
        for first, second in ((1, 0), (0, 1), (1, 1), (2, 3)):
            self.assert_all(setting, ask(first, second), [-33])
        self.assert_nothing_changes(ask(0, 2))
