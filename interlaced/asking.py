"""The calls that ask how the roots of polynomials lie and how many there are.

They change nothing. Each gives back what is answered.
"""

from interlaced.comparisons import commonly_interlaced, proportional, real_rooted, second_interlaces_first
from interlaced.instance import SLOT_COUNT
from interlaced.refusals import NO_SUCH_ROOT, argument_refusal, refused, slot_refusal
from interlaced.roots import CountedRoots, joint_pairs


def truth_answer(holds):
    """1 for what holds, else 0."""
    return [1] if holds else [0]


def is_real_rooted(instance, slot):
    """Whether the polynomial in a slot is real-rooted."""
    refusal = slot_refusal(instance, [slot])
    if len(refusal) > 0:
        return refusal
    return truth_answer(real_rooted(instance.whole_in(slot)))


def joint_multiplicities(instance, first, second):
    """The number of joint roots, then the two multiplicities of each, in ascending order."""
    refusal = slot_refusal(instance, [first, second])
    if len(refusal) > 0:
        return refusal
    pairs = joint_pairs(instance.whole_in(first), instance.whole_in(second))
    numbers = [len(pairs)]
    for first_multiplicity, second_multiplicity in pairs:
        numbers.append(first_multiplicity)
        numbers.append(second_multiplicity)
    return numbers


def interlaces(instance, first, second):
    """Whether the second polynomial interlaces the first one."""
    refusal = slot_refusal(instance, [first, second])
    if len(refusal) > 0:
        return refusal
    return truth_answer(second_interlaces_first(instance.whole_in(first), instance.whole_in(second)))


def have_common_interlacing(instance, first, second):
    """Whether both polynomials have a common interlacing."""
    refusal = slot_refusal(instance, [first, second])
    if len(refusal) > 0:
        return refusal
    return truth_answer(commonly_interlaced(instance.whole_in(first), instance.whole_in(second)))


def all_have_common_interlacing(instance):
    """1 if each pair of polynomials that are not zero has a common interlacing, else 0 and the first that has none."""
    filled = [slot for slot in range(SLOT_COUNT) if not instance.is_zero_in(slot)]
    for first in filled:
        for second in filled:
            if first < second and not commonly_interlaced(instance.whole_in(first), instance.whole_in(second)):
                return [0, first, second]
    return [1]


def are_proportional(instance, first, second):
    """Whether the polynomials are equal after each is divided by its last coefficient."""
    refusal = slot_refusal(instance, [first, second])
    if len(refusal) > 0:
        return refusal
    return truth_answer(proportional(instance.whole_in(first), instance.whole_in(second)))


def count_roots_above(instance, slot, numerator, denominator):
    """The number of roots above the argument, counted with multiplicity."""
    refusal = argument_refusal(instance, [slot], numerator, denominator)
    if len(refusal) > 0:
        return refusal
    return [CountedRoots(instance.whole_in(slot)).count_above(numerator, denominator)]


def lead_above(instance, first, second, numerator, denominator):
    """0, then how many roots more the first polynomial has above the argument than the second."""
    refusal = argument_refusal(instance, [first, second], numerator, denominator)
    if len(refusal) > 0:
        return refusal
    first_count = CountedRoots(instance.whole_in(first)).count_above(numerator, denominator)
    second_count = CountedRoots(instance.whole_in(second)).count_above(numerator, denominator)
    return [0, first_count - second_count]


def compare_greatest_roots(instance, first, second):
    """1 or 2 if the greatest joint root is a root of the first or the second polynomial only, 0 if of both."""
    refusal = slot_refusal(instance, [first, second])
    if len(refusal) > 0:
        return refusal
    pairs = joint_pairs(instance.whole_in(first), instance.whole_in(second))
    if len(pairs) == 0:
        return refused(NO_SUCH_ROOT)
    greatest = pairs[-1]
    if greatest[1] == 0:
        return [1]
    if greatest[0] == 0:
        return [2]
    return [0]
