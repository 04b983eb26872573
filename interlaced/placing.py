"""The calls that tell where roots lie, by their floors. They change nothing. Each gives back what is answered."""

from interlaced.comparisons import commonly_interlaced, greatest_large_lead
from interlaced.floors import distinct_root_floors, joint_root_floor, root_floor
from interlaced.refusals import NO_SUCH_ROOT, NO_SUCH_SLOT, bits_refusal, refused
from interlaced.roots import CountedRoots, joint_pairs
from interlaced.whole_polynomials import degree_of


def first_large_lead(instance, first, second, bits):
    """0, then the floor of the greatest joint root after which the lead is below -1 or above 1."""
    refusal = bits_refusal(instance, [first, second], bits)
    if len(refusal) > 0:
        return refusal
    left = instance.whole_in(first)
    right = instance.whole_in(second)
    pairs = joint_pairs(left, right)
    place = greatest_large_lead(pairs)
    if place is None:
        return refused(NO_SUCH_ROOT)
    return [0, joint_root_floor(left, right, pairs, place, bits)]


def min_root_gap(instance, slot, bits):
    """0, then the smallest difference between the floors of two different roots that follow one another."""
    refusal = bits_refusal(instance, [slot], bits)
    if len(refusal) > 0:
        return refusal
    floors = distinct_root_floors(instance.whole_in(slot), bits)
    if len(floors) < 2:
        return refused(NO_SUCH_ROOT)
    return [0, min([floors[place] - floors[place - 1] for place in range(1, len(floors))])]


def interlacing_interval(instance, first, second, k, bits):
    """0, then the floors between which root k of a common interlacing lies."""
    refusal = bits_refusal(instance, [first, second], bits)
    if len(refusal) > 0:
        return refusal
    left = instance.whole_in(first)
    right = instance.whole_in(second)
    if not commonly_interlaced(left, right):
        return refused(NO_SUCH_ROOT)
    if degree_of(left) <= k + 1:
        # The document has one code for a slot and for a root that does not exist.
        return refused(NO_SUCH_SLOT)
    both = [CountedRoots(left), CountedRoots(right)]
    low = max([root_floor(roots, k, bits) for roots in both])
    high = min([root_floor(roots, k + 1, bits) for roots in both])
    return [0, low, high]
