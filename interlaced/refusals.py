"""What is answered when a call is refused, and the checks that several calls have in common.

A check gives back the refusal, or an empty list where nothing is refused.
"""

# The codes, each without the minus sign it is answered with.
NO_SUCH_SLOT = 2
NOT_CREATED = 11
OUT_OF_RANGE = 22
ZERO_POLYNOMIAL = 33
NO_SUCH_ROOT = 34
TOO_LARGE = 75

MOST_BITS = 20
GREATEST_ARGUMENT_NUMERATOR = 1000000
GREATEST_ARGUMENT_DENOMINATOR = 1000


def refused(code):
    """The answer of a call that is refused."""
    return [-code]


def slot_refusal(instance, slots):
    """Refuses slots that do not exist, then zero polynomials."""
    if instance.lacks_slot(slots):
        return refused(NO_SUCH_SLOT)
    if any([instance.is_zero_in(slot) for slot in slots]):
        return refused(ZERO_POLYNOMIAL)
    return []


def bits_refusal(instance, slots, bits):
    """Refuses what slot_refusal does, then too many bits."""
    refusal = slot_refusal(instance, slots)
    if len(refusal) == 0 and bits > MOST_BITS:
        return refused(OUT_OF_RANGE)
    return refusal


def argument_refusal(instance, slots, numerator, denominator):
    """Refuses what slot_refusal does, then an argument outside its range."""
    refusal = slot_refusal(instance, slots)
    if len(refusal) > 0:
        return refusal
    if abs(numerator) > GREATEST_ARGUMENT_NUMERATOR:
        return refused(OUT_OF_RANGE)
    if denominator < 1 or denominator > GREATEST_ARGUMENT_DENOMINATOR:
        return refused(OUT_OF_RANGE)
    return []
