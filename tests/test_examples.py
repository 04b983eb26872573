"""The document's example session."""

import unittest

import session as s


class ExampleSession(unittest.TestCase):
    def test_rows_in_their_order(self):
        rows = [
            (s.create(), [0]),
            (s.set_roots(0, 1, [0, 2]), [3, 0, 1, -2, 1, 1, 1]),
            (s.set_roots(1, 1, [1]), [2, -1, 1, 1, 1]),
            (s.joint_multiplicities(0, 1), [3, 1, 0, 0, 1, 1, 0]),
            (s.interlaces(0, 1), [1]),
            (s.interlaces(1, 0), [0]),
            (s.set_roots(2, 1, [1, 3]), [3, 3, 1, -4, 1, 1, 1]),
            (s.have_common_interlacing(0, 2), [1]),
            (s.interlacing_interval(0, 2, 0, 2), [0, 4, 8]),
            (s.add_multiples(0, 1, 2, 1, 3), [3, 3, 1, -6, 1, 2, 1]),
            (s.is_real_rooted(3), [1]),
            (s.compare_greatest_roots(0, 2), [2]),
            (s.first_large_lead(0, 2, 0), [-34]),
        ]
        found = s.run(*[call for call, answer in rows])
        for (call, answer), given in zip(rows, found):
            with self.subTest(call=call):
                self.assertEqual(given, answer)


if __name__ == "__main__":
    unittest.main()
