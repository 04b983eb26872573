"""A list of calls on a new instance, and the list of what is answered."""

from interlaced.asking import (
    all_have_common_interlacing, are_proportional, compare_greatest_roots, count_roots_above,
    have_common_interlacing, interlaces, is_real_rooted, joint_multiplicities, lead_above)
from interlaced.instance import Instance
from interlaced.placing import first_large_lead, interlacing_interval, min_root_gap
from interlaced.refusals import NOT_CREATED, refused
from interlaced.storing import (
    add_multiples, create, derivative, get_polynomial, set_polynomial, set_roots, subtract_multiples, summary)

# How many whole numbers each call has ahead of its row, by the call's number.
NUMBER_COUNTS = (0, 2, 2, 1, 1, 2, 2, 2, 0, 5, 5, 2, 3, 2, 2, 3, 4, 2, 4, 0)
CALLS_WITH_ROW = (1, 2)


def storing_answer(instance, call, numbers, row):
    """The answer of a call that stores a polynomial or tells what is stored."""
    if call == 1:
        return set_polynomial(instance, numbers[0], numbers[1], row)
    if call == 2:
        return set_roots(instance, numbers[0], numbers[1], row)
    if call == 3:
        return get_polynomial(instance, numbers[0])
    if call == 9:
        return add_multiples(instance, numbers[0], numbers[1], numbers[2], numbers[3], numbers[4])
    if call == 10:
        return subtract_multiples(instance, numbers[0], numbers[1], numbers[2], numbers[3], numbers[4])
    if call == 11:
        return derivative(instance, numbers[0], numbers[1])
    return summary(instance)


def asking_answer(instance, call, numbers):
    """The answer of a call that asks how roots lie and how many there are."""
    if call == 4:
        return is_real_rooted(instance, numbers[0])
    if call == 5:
        return joint_multiplicities(instance, numbers[0], numbers[1])
    if call == 6:
        return interlaces(instance, numbers[0], numbers[1])
    if call == 7:
        return have_common_interlacing(instance, numbers[0], numbers[1])
    if call == 8:
        return all_have_common_interlacing(instance)
    if call == 14:
        return are_proportional(instance, numbers[0], numbers[1])
    if call == 15:
        return count_roots_above(instance, numbers[0], numbers[1], numbers[2])
    if call == 16:
        return lead_above(instance, numbers[0], numbers[1], numbers[2], numbers[3])
    return compare_greatest_roots(instance, numbers[0], numbers[1])


def placing_answer(instance, call, numbers):
    """The answer of a call that tells where roots lie."""
    if call == 12:
        return first_large_lead(instance, numbers[0], numbers[1], numbers[2])
    if call == 13:
        return min_root_gap(instance, numbers[0], numbers[1])
    return interlacing_interval(instance, numbers[0], numbers[1], numbers[2], numbers[3])


def call_answer(instance, call, numbers, row):
    """The answer of any call."""
    if call == 0:
        return create(instance)
    if not instance.is_created():
        return refused(NOT_CREATED)
    if call in (1, 2, 3, 9, 10, 11, 19):
        return storing_answer(instance, call, numbers, row)
    if call in (12, 13, 18):
        return placing_answer(instance, call, numbers)
    return asking_answer(instance, call, numbers)


def answers(calls):
    """For each call, how many numbers are answered, then these numbers."""
    instance = Instance()
    given = []
    position = 0
    while position < len(calls):
        call = calls[position]
        row_start = position + 1 + NUMBER_COUNTS[call]
        numbers = calls[position + 1:row_start]
        row = []
        position = row_start
        if call in CALLS_WITH_ROW:
            position = row_start + 1 + calls[row_start]
            row = calls[row_start + 1:position]
        answer = call_answer(instance, call, numbers, row)
        given.append(len(answer))
        given.extend(answer)
    return given
