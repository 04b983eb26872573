"""The calls that store polynomials or tell what is stored. Each gives back what is answered."""

from interlaced.fraction_polynomials import (
    as_numbers, fraction_derivative, from_numerators, from_roots, is_too_large, sum_of_multiples)
from interlaced.instance import SLOT_COUNT
from interlaced.refusals import NO_SUCH_SLOT, OUT_OF_RANGE, TOO_LARGE, refused

MOST_COEFFICIENTS = 7
MOST_ROOTS = 6
GREATEST_NUMERATOR = 1000
GREATEST_DENOMINATOR = 1000
GREATEST_FACTOR = 1000


def create(instance):
    """Sets all slots to the zero polynomial."""
    instance.create()
    return [0]


def stored(instance, slot, polynomial):
    """Stores the polynomial and gives back the answer that shows it."""
    instance.store(slot, polynomial)
    return as_numbers(polynomial)


def out_of_range(denominator, numerators, most):
    """Whether there are more numerators than allowed, or a number is outside its range."""
    if len(numerators) > most:
        return True
    if denominator < 1 or denominator > GREATEST_DENOMINATOR:
        return True
    return any([abs(numerator) > GREATEST_NUMERATOR for numerator in numerators])


def set_polynomial(instance, slot, denominator, coefficients):
    """Stores the polynomial with the coefficients that are given over one denominator."""
    if instance.lacks_slot([slot]):
        return refused(NO_SUCH_SLOT)
    if out_of_range(denominator, coefficients, MOST_COEFFICIENTS):
        return refused(OUT_OF_RANGE)
    return stored(instance, slot, from_numerators(coefficients, denominator))


def set_roots(instance, slot, denominator, roots):
    """Stores the product of the factors x minus a root."""
    if instance.lacks_slot([slot]):
        return refused(NO_SUCH_SLOT)
    if out_of_range(denominator, roots, MOST_ROOTS):
        return refused(OUT_OF_RANGE)
    return stored(instance, slot, from_roots(roots, denominator))


def get_polynomial(instance, slot):
    """The polynomial in a slot."""
    if instance.lacks_slot([slot]):
        return refused(NO_SUCH_SLOT)
    return as_numbers(instance.polynomial_in(slot))


def stored_if_small(instance, slot, polynomial):
    """Stores a result, if it is not too large."""
    if is_too_large(polynomial):
        return refused(TOO_LARGE)
    return stored(instance, slot, polynomial)


def combination_refusal(instance, slots, factors):
    """The refusal if a slot does not exist or a factor is too great; else an empty list."""
    if instance.lacks_slot(slots):
        return refused(NO_SUCH_SLOT)
    if max(factors) > GREATEST_FACTOR:
        return refused(OUT_OF_RANGE)
    return []


def add_multiples(instance, first, first_factor, second, second_factor, target):
    """Stores first_factor * first + second_factor * second."""
    refusal = combination_refusal(instance, [first, second, target], [first_factor, second_factor])
    if len(refusal) > 0:
        return refusal
    left = instance.polynomial_in(first)
    right = instance.polynomial_in(second)
    return stored_if_small(instance, target, sum_of_multiples(left, first_factor, right, second_factor))


def subtract_multiples(instance, first, first_factor, second, second_factor, target):
    """Stores first_factor * first - second_factor * second."""
    refusal = combination_refusal(instance, [first, second, target], [first_factor, second_factor])
    if len(refusal) > 0:
        return refusal
    left = instance.polynomial_in(first)
    right = instance.polynomial_in(second)
    return stored_if_small(instance, target, sum_of_multiples(left, first_factor, right, -second_factor))


def derivative(instance, source, target):
    """Stores the derivative."""
    if instance.lacks_slot([source, target]):
        return refused(NO_SUCH_SLOT)
    return stored_if_small(instance, target, fraction_derivative(instance.polynomial_in(source)))


def summary(instance):
    """The number of slots, then the number of coefficients in each."""
    return [SLOT_COUNT] + [len(instance.polynomial_in(slot)) for slot in range(SLOT_COUNT)]
