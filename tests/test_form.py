"""The form of what is handed in and given back, and what an instance keeps."""

import unittest

import session as s
from interlaced.slots import answers

# One call of each number, with arguments that would be refused if they were looked at.
ONE_OF_EACH = [
    s.set_polynomial(9, 0, [1] * 9),
    s.set_roots(9, 0, [1] * 9),
    s.get_polynomial(9),
    s.is_real_rooted(9),
    s.joint_multiplicities(9, 9),
    s.interlaces(9, 9),
    s.have_common_interlacing(9, 9),
    s.all_have_common_interlacing(),
    s.add_multiples(9, 1001, 9, 1001, 9),
    s.subtract_multiples(9, 1001, 9, 1001, 9),
    s.derivative(9, 9),
    s.first_large_lead(9, 9, 21),
    s.min_root_gap(9, 21),
    s.are_proportional(9, 9),
    s.count_roots_above(9, 2000000, 0),
    s.lead_above(9, 9, -2000000, 0),
    s.compare_greatest_roots(9, 9),
    s.interlacing_interval(9, 9, 9, 21),
    s.summary(),
]


class Form(unittest.TestCase):
    def test_each_answer_has_its_length_ahead(self):
        calls = [0, 1, 0, 2, 3, 1, 2, 3, 3, 0, 3, 1, 4, 0, 8]
        expected = [1, 0, 7, 3, 1, 2, 1, 1, 3, 2, 7, 3, 1, 2, 1, 1, 3, 2, 1, 0, 1, 0, 1, 1]
        self.assertEqual(answers(calls), expected)

    def test_refusal_is_one_number(self):
        self.assertEqual(answers([0, 3, 4, 4, 0]), [1, 0, 1, -2, 1, -33])

    def test_empty_rows(self):
        self.assertEqual(answers([0, 1, 0, 1, 0, 2, 1, 1, 0]), [1, 0, 1, 0, 3, 1, 1, 1])

    def test_rows_of_sixty_numbers_are_passed_over(self):
        calls = [s.set_polynomial(0, 1, [0] * 60), s.set_roots(0, 1, [3] * 60), s.get_polynomial(0)]
        self.assertEqual(s.after_create(*calls), [[-22], [-22], [0]])

    def test_row_that_looks_like_calls(self):
        self.assertEqual(s.last(s.set_polynomial(0, 1, [3, 0, 3, 0]), s.get_polynomial(0)), [3, 3, 1, 0, 1, 3, 1])

    def test_two_hundred_calls(self):
        pairs = [s.set_polynomial(0, 1, [1]), s.all_have_common_interlacing()] * 99
        calls = [s.create()] + pairs + [s.get_polynomial(0)]
        self.assertEqual(len(calls), 200)
        self.assertEqual(s.run(*calls), [[0]] + [[1, 1, 1], [1]] * 99 + [[1, 1, 1]])

    def test_all_numbers_are_ints(self):
        calls = [
            s.set_roots(0, 1, [0, 2]), s.set_roots(1, 1, [1]), s.is_real_rooted(0), s.joint_multiplicities(0, 1),
            s.interlaces(0, 1), s.interlaces(1, 0), s.have_common_interlacing(0, 0),
            s.have_common_interlacing(0, 1), s.all_have_common_interlacing(), s.get_polynomial(9),
            s.add_multiples(0, 1, 1, 2, 2), s.subtract_multiples(0, 1, 1, 2, 2), s.derivative(0, 3),
            s.first_large_lead(0, 3, 2), s.first_large_lead(0, 2, 2), s.min_root_gap(0, 20),
            s.are_proportional(0, 1), s.are_proportional(1, 3), s.count_roots_above(0, 1, 3),
            s.lead_above(1, 0, -1, 3), s.compare_greatest_roots(0, 1), s.interlacing_interval(0, 0, 0, 9), s.summary(),
        ]
        given = answers(s.handed_in([s.create()] + calls))
        self.assertIs(type(given), list)
        self.assertEqual({type(number) for number in given}, {int})


class NothingIsKept(unittest.TestCase):
    calls = s.handed_in([
        s.create(), s.set_polynomial(0, 7, [3, -5, 0, 2, 0]), s.set_roots(1, 3, [1, 1, -2]),
        s.add_multiples(0, 2, 1, 3, 1), s.joint_multiplicities(0, 1), s.interlaces(0, 1),
        s.have_common_interlacing(0, 1), s.all_have_common_interlacing(), s.is_real_rooted(0),
        s.set_polynomial(0, 1, [1] * 8), s.get_polynomial(0), s.subtract_multiples(0, 2, 1, 3, 2), s.derivative(1, 3),
        s.first_large_lead(1, 0, 4), s.min_root_gap(1, 4), s.are_proportional(0, 1), s.count_roots_above(1, -1, 2),
        s.lead_above(0, 1, -1, 2), s.compare_greatest_roots(0, 1), s.interlacing_interval(1, 1, 1, 4), s.summary(),
    ])

    def test_list_handed_in_is_not_changed(self):
        calls = list(self.calls)
        answers(calls)
        self.assertEqual(calls, self.calls)

    def test_list_handed_in_is_never_written(self):
        class Untouched(list):
            def refuse(self, *arguments):
                raise AssertionError("the list was changed")

            append = extend = insert = pop = remove = clear = sort = reverse = refuse
            __setitem__ = __delitem__ = __iadd__ = __imul__ = refuse

        self.assertEqual(answers(Untouched(self.calls)), answers(list(self.calls)))

    def test_same_list_twice(self):
        for calls in (list(self.calls), s.handed_in([s.create()] + ONE_OF_EACH)):
            first = answers(calls)
            self.assertEqual(answers(calls), first)

    def test_list_given_back_is_its_own(self):
        first = answers(self.calls)
        kept = list(first)
        first.clear()
        self.assertEqual(answers(self.calls), kept)

    def test_next_list_begins_anew(self):
        answers([0, 1, 0, 1, 1, 5])
        self.assertEqual(answers([3, 0, 8]), [1, -11, 1, -11])
        self.assertEqual(answers([0, 3, 0]), [1, 0, 1, 0])


class Create(unittest.TestCase):
    def test_every_other_call_before_create(self):
        for call in ONE_OF_EACH:
            with self.subTest(call=call):
                self.assertEqual(s.run(call), [[-11]])

    def test_all_calls_before_create_in_one_list(self):
        self.assertEqual(s.run(*ONE_OF_EACH, *reversed(ONE_OF_EACH)), [[-11]] * 38)

    def test_good_arguments_before_create(self):
        calls = [s.set_polynomial(0, 1, [1]), s.set_roots(1, 1, [2]), s.add_multiples(0, 1, 1, 1, 2)]
        self.assertEqual(s.run(*calls, s.create(), *s.get_all()), [[-11]] * 3 + [[0]] * 5)

    def test_all_slots_are_empty(self):
        self.assertEqual(s.run(s.create(), *s.get_all()), [[0]] * 5)

    def test_second_create_empties_all_slots(self):
        fill = [s.set_roots(slot, 1, [slot]) for slot in range(4)]
        self.assertEqual(s.run(s.create(), *fill, s.create(), *s.get_all())[5:], [[0]] * 5)

    def test_filling_one_slot_leaves_the_others(self):
        for slot in range(4):
            with self.subTest(slot=slot):
                expected = [[0]] * 4
                expected[slot] = [1, 5, 1]
                self.assertEqual(s.after_create(s.set_polynomial(slot, 1, [5]), *s.get_all())[1:], expected)


if __name__ == "__main__":
    unittest.main()
