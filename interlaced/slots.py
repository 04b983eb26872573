"""A list of calls on a new instance, and the list of what is answered."""

from interlaced.asking import (
    all_have_common_interlacing, have_common_interlacing, interlaces, is_real_rooted, joint_multiplicities)
from interlaced.instance import Instance
from interlaced.refusals import NOT_CREATED, refused
from interlaced.storing import add_multiples, create, get_polynomial, set_polynomial, set_roots

# How many whole numbers each call has ahead of its row, by the call's number.
NUMBER_COUNTS = (0, 2, 2, 1, 1, 2, 2, 2, 0, 5, 5, 2, 3, 2, 2, 3, 4, 2, 4, 0)
CALLS_WITH_ROW = (1, 2)


def storing_answer(instance, call, numbers, row):
    """The answer of a call that stores a polynomial or gives one back."""
    if call == 1:
        return set_polynomial(instance, numbers[0], numbers[1], row)
    if call == 2:
        return set_roots(instance, numbers[0], numbers[1], row)
    if call == 3:
        return get_polynomial(instance, numbers[0])
    return add_multiples(instance, numbers[0], numbers[1], numbers[2], numbers[3], numbers[4])


def asking_answer(instance, call, numbers):
    """The answer of a call that asks about roots."""
    if call == 4:
        return is_real_rooted(instance, numbers[0])
    if call == 5:
        return joint_multiplicities(instance, numbers[0], numbers[1])
    if call == 6:
        return interlaces(instance, numbers[0], numbers[1])
    if call == 7:
        return have_common_interlacing(instance, numbers[0], numbers[1])
    return all_have_common_interlacing(instance)


def call_answer(instance, call, numbers, row):
    """The answer of any call."""
    if call == 0:
        return create(instance)
    if not instance.is_created():
        return refused(NOT_CREATED)
    if call in (1, 2, 3, 9):
        return storing_answer(instance, call, numbers, row)
    if call in (4, 5, 6, 7, 8):
        return asking_answer(instance, call, numbers)
    raise NotImplementedError(f"call {call}")


def answers(calls):
    """For each call, how many numbers are answered, then these numbers."""
    instance = Instance()
    given = []
    position = 0
    while position < len(calls):
        call = calls[position]
        row_start = position + 1 + NUMBER_COUNTS[call]
        numbers = calls[position + 1:row_start]
        row = []
        position = row_start
        if call in CALLS_WITH_ROW:
            position = row_start + 1 + calls[row_start]
            row = calls[row_start + 1:position]
        answer = call_answer(instance, call, numbers, row)
        given.append(len(answer))
        given.extend(answer)
    return given
