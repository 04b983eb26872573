"""Divisors and multiples of whole numbers."""


def greatest_divisor(first, second):
    """The greatest common divisor of two whole numbers, never below 0; that of 0 and 0 is 0."""
    larger = abs(first)
    smaller = abs(second)
    while smaller > 0:
        rest = larger % smaller
        larger = smaller
        smaller = rest
    return larger


def least_multiple(first, second):
    """The least common multiple of two whole numbers above 0."""
    return first // greatest_divisor(first, second) * second
