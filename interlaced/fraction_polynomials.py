"""Polynomials as they are stored: fractions in lowest terms by ascending power, the last one not 0.

A fraction is a tuple of its numerator and its denominator, which is above 0.
The zero polynomial is the empty list. No function changes a list that it is given.
"""

from interlaced.whole_numbers import greatest_divisor, least_multiple


def lowest_terms(numerator, denominator):
    """The fraction numerator / denominator, for a denominator above 0."""
    divisor = greatest_divisor(numerator, denominator)
    return (numerator // divisor, denominator // divisor)


def without_end_zeros(fractions):
    """The fractions up to the last one that is not 0."""
    count = len(fractions)
    while count > 0 and fractions[count - 1][0] == 0:
        count -= 1
    return fractions[:count]


def from_numerators(numerators, denominator):
    """The polynomial whose coefficients have these numerators over one denominator."""
    return without_end_zeros([lowest_terms(numerator, denominator) for numerator in numerators])


def from_roots(numerators, denominator):
    """The product of the factors x - numerator / denominator."""
    # Every factor is taken denominator times as large, so that all steps but the last are whole.
    product = [1]
    scale = 1
    for numerator in numerators:
        raised = [0] + [denominator * coefficient for coefficient in product]
        lowered = [numerator * coefficient for coefficient in product] + [0]
        product = [left - right for left, right in zip(raised, lowered)]
        scale *= denominator
    return from_numerators(product, scale)


def coefficient_at(polynomial, power):
    """The coefficient of a power, which is 0 above the degree."""
    if power < len(polynomial):
        return polynomial[power]
    return (0, 1)


def sum_of_multiples(first, first_factor, second, second_factor):
    """The polynomial first_factor * first + second_factor * second."""
    fractions = []
    for power in range(max(len(first), len(second))):
        left = coefficient_at(first, power)
        right = coefficient_at(second, power)
        numerator = first_factor * left[0] * right[1] + second_factor * right[0] * left[1]
        fractions.append(lowest_terms(numerator, left[1] * right[1]))
    return without_end_zeros(fractions)


def fraction_derivative(polynomial):
    """The derivative."""
    return [lowest_terms(power * polynomial[power][0], polynomial[power][1]) for power in range(1, len(polynomial))]


def is_too_large(polynomial):
    """Whether a numerator or a denominator is above 10 ** 30 in absolute value."""
    limit = 10 ** 30
    return any([abs(numerator) > limit or denominator > limit for numerator, denominator in polynomial])


def as_numbers(polynomial):
    """The polynomial as it is answered: the number of coefficients, then each as two numbers."""
    numbers = [len(polynomial)]
    for numerator, denominator in polynomial:
        numbers.append(numerator)
        numbers.append(denominator)
    return numbers


def whole_multiple(polynomial):
    """Whole coefficients of a multiple of the polynomial by a number above 0, so with the same roots."""
    multiple = 1
    for numerator, denominator in polynomial:
        multiple = least_multiple(multiple, denominator)
    return [numerator * (multiple // denominator) for numerator, denominator in polynomial]
