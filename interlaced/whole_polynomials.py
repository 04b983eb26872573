"""Polynomials with whole coefficients: lists by ascending power, the last coefficient not 0.

The zero polynomial is the empty list. No function changes a list that it is given.
"""

from interlaced.whole_numbers import greatest_divisor


def degree_of(polynomial):
    """The degree of a polynomial that is not zero."""
    return len(polynomial) - 1


def trimmed(coefficients):
    """The coefficients up to the last one that is not 0."""
    count = len(coefficients)
    while count > 0 and coefficients[count - 1] == 0:
        count -= 1
    return coefficients[:count]


def derivative_of(polynomial):
    """The derivative."""
    return [power * polynomial[power] for power in range(1, len(polynomial))]


def primitive_part(polynomial):
    """The polynomial divided by the greatest number that divides all its coefficients; signs stay."""
    content = 0
    for coefficient in polynomial:
        content = greatest_divisor(content, coefficient)
    return [coefficient // content for coefficient in polynomial]


def shifted_difference(dividend, factor, divisor):
    """dividend - factor * divisor * x ** k, with k such that both end at the same power."""
    shift = len(dividend) - len(divisor)
    difference = list(dividend)
    for power, coefficient in enumerate(divisor):
        difference[shift + power] -= factor * coefficient
    return difference


def remainder_of(dividend, divisor):
    """The remainder when the dividend is divided by the divisor, times some number above 0."""
    # Each step stays whole as the rest is multiplied first; by a number above 0, as Sturm's theorem needs the signs.
    scale = abs(divisor[-1])
    sign = 1 if divisor[-1] > 0 else -1
    rest = dividend
    while len(rest) >= len(divisor):
        factor = sign * rest[-1]
        scaled = [scale * coefficient for coefficient in rest]
        rest = trimmed(shifted_difference(scaled, factor, divisor))
    return primitive_part(rest)


def exact_quotient(dividend, divisor):
    """The quotient of two primitive polynomials, the second of which divides the first."""
    descending = []
    rest = dividend
    while len(rest) >= len(divisor):
        factor = rest[-1] // divisor[-1]
        descending.append(factor)
        rest = shifted_difference(rest, factor, divisor)[:-1]
    return list(reversed(descending))


def common_divisor(first, second):
    """The primitive polynomial of greatest degree that divides both; they are not both zero."""
    larger = first
    smaller = second
    while len(smaller) > 0:
        rest = remainder_of(larger, smaller)
        larger = smaller
        smaller = rest
    return primitive_part(larger)


def scaled_value(polynomial, numerator, denominator):
    """The value at numerator / denominator times denominator ** degree, which keeps its sign.

    The denominator is above 0.
    """
    value = 0
    scale = 1
    for coefficient in reversed(polynomial):
        value = value * numerator + coefficient * scale
        scale *= denominator
    return value
