"""The calls that ask about the roots of polynomials and change nothing. Each gives back what is answered."""

from interlaced.comparisons import commonly_interlaced, real_rooted, second_interlaces_first
from interlaced.fraction_polynomials import whole_multiple
from interlaced.instance import SLOT_COUNT
from interlaced.refusals import NO_SUCH_SLOT, ZERO_POLYNOMIAL, refused
from interlaced.roots import joint_pairs


def is_zero_in(instance, slot):
    """Whether the polynomial in a slot is zero."""
    return len(instance.polynomial_in(slot)) == 0


def whole_in(instance, slot):
    """Whole coefficients with the roots of the polynomial in a slot."""
    return whole_multiple(instance.polynomial_in(slot))


def refusal_for(instance, slots):
    """The refusal if a slot does not exist or holds the zero polynomial; else an empty list."""
    if instance.lacks_slot(slots):
        return refused(NO_SUCH_SLOT)
    if any([is_zero_in(instance, slot) for slot in slots]):
        return refused(ZERO_POLYNOMIAL)
    return []


def truth_answer(holds):
    """1 for what holds, else 0."""
    return [1] if holds else [0]


def is_real_rooted(instance, slot):
    """Whether the polynomial in a slot is real-rooted."""
    refusal = refusal_for(instance, [slot])
    if len(refusal) > 0:
        return refusal
    return truth_answer(real_rooted(whole_in(instance, slot)))


def joint_multiplicities(instance, first, second):
    """The number of joint roots, then the two multiplicities of each, in ascending order."""
    refusal = refusal_for(instance, [first, second])
    if len(refusal) > 0:
        return refusal
    pairs = joint_pairs(whole_in(instance, first), whole_in(instance, second))
    numbers = [len(pairs)]
    for first_multiplicity, second_multiplicity in pairs:
        numbers.append(first_multiplicity)
        numbers.append(second_multiplicity)
    return numbers


def interlaces(instance, first, second):
    """Whether the second polynomial interlaces the first one."""
    refusal = refusal_for(instance, [first, second])
    if len(refusal) > 0:
        return refusal
    return truth_answer(second_interlaces_first(whole_in(instance, first), whole_in(instance, second)))


def have_common_interlacing(instance, first, second):
    """Whether both polynomials have a common interlacing."""
    refusal = refusal_for(instance, [first, second])
    if len(refusal) > 0:
        return refusal
    return truth_answer(commonly_interlaced(whole_in(instance, first), whole_in(instance, second)))


def all_have_common_interlacing(instance):
    """1 if each pair of polynomials that are not zero has a common interlacing, else 0 and the first that has none."""
    filled = [slot for slot in range(SLOT_COUNT) if not is_zero_in(instance, slot)]
    for first in filled:
        for second in filled:
            if first < second and not commonly_interlaced(whole_in(instance, first), whole_in(instance, second)):
                return [0, first, second]
    return [1]
