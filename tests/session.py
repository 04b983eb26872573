"""Calls as the lists that are handed in, and the answers taken apart again."""

from interlaced.slots import answers


def create():
    return [0]


def set_polynomial(slot, denominator, coefficients):
    return [1, slot, denominator, len(coefficients)] + list(coefficients)


def set_roots(slot, denominator, roots):
    return [2, slot, denominator, len(roots)] + list(roots)


def get_polynomial(slot):
    return [3, slot]


def is_real_rooted(slot):
    return [4, slot]


def joint_multiplicities(first, second):
    return [5, first, second]


def interlaces(first, second):
    return [6, first, second]


def have_common_interlacing(first, second):
    return [7, first, second]


def all_have_common_interlacing():
    return [8]


def add_multiples(first, first_factor, second, second_factor, target):
    return [9, first, first_factor, second, second_factor, target]


def subtract_multiples(first, first_factor, second, second_factor, target):
    return [10, first, first_factor, second, second_factor, target]


def derivative(source, target):
    return [11, source, target]


def first_large_lead(first, second, bits):
    return [12, first, second, bits]


def min_root_gap(slot, bits):
    return [13, slot, bits]


def are_proportional(first, second):
    return [14, first, second]


def count_roots_above(slot, numerator, denominator):
    return [15, slot, numerator, denominator]


def lead_above(first, second, numerator, denominator):
    return [16, first, second, numerator, denominator]


def compare_greatest_roots(first, second):
    return [17, first, second]


def interlacing_interval(first, second, k, bits):
    return [18, first, second, k, bits]


def summary():
    return [19]


def get_all():
    """Four calls that show all slots."""
    return [get_polynomial(slot) for slot in range(4)]


def handed_in(calls):
    """One list of all calls, one behind another."""
    return [number for call in calls for number in call]


def taken_apart(numbers):
    """The answers out of the list that is given back."""
    found = []
    position = 0
    while position < len(numbers):
        end = position + 1 + numbers[position]
        found.append(numbers[position + 1:end])
        position = end
    return found


def run(*calls):
    """What is answered of each call, on a new instance, without a create."""
    found = taken_apart(answers(handed_in(calls)))
    if len(found) != len(calls):
        raise AssertionError(f"{len(calls)} calls, but {len(found)} answers")
    return found


def after_create(*calls):
    """What is answered of each call behind a create."""
    return run(create(), *calls)[1:]


def last(*calls):
    """What is answered of the last call, behind a create."""
    return after_create(*calls)[-1]


def scaled_by_powers(slot, count):
    """Calls that multiply the polynomial in a slot by 1000 ** count."""
    return [add_multiples(slot, 1000, slot, 0, slot)] * count
