"""Polynomials put together of factors whose real roots are known, and what must be answered of them.

The roots here come from the factors alone, never from the program's own way to count roots.
"""

from collections import Counter
from math import sqrt


class Factor:
    """A monic factor that has no rational divisor, with its real roots in ascending order."""

    def __init__(self, coefficients, roots):
        self.coefficients = coefficients
        self.roots = roots
        self.degree = len(coefficients) - 1


def linear(root):
    return Factor([-root, 1], [float(root)])


def quadratic(constant, middle):
    """x ** 2 + middle * x + constant, whose discriminant is no square."""
    discriminant = middle * middle - 4 * constant
    if discriminant < 0:
        return Factor([constant, middle, 1], [])
    roots = [(-middle - sqrt(discriminant)) / 2, (-middle + sqrt(discriminant)) / 2]
    return Factor([constant, middle, 1], roots)


LINEAR = [linear(root) for root in range(-3, 4)]
IRRATIONAL = [quadratic(-2, 0), quadratic(-3, 0), quadratic(-1, -1), quadratic(-1, 1), quadratic(1, -3)]
NOT_REAL = [quadratic(1, 0), quadratic(2, 0), quadratic(1, 1), quadratic(3, -2)]
CUBIC = [
    Factor([1, -3, 0, 1], [-1.8793852415718169, 0.34729635533386083, 1.532088886237956]),
    Factor([-2, 0, 0, 1], [1.2599210498948732]),
]
REAL = LINEAR + IRRATIONAL + CUBIC[:1]
ALL = REAL + NOT_REAL + CUBIC[1:]


def multiplied(left, right):
    found = [0] * (len(left) + len(right) - 1)
    for i, a in enumerate(left):
        for j, b in enumerate(right):
            found[i + j] += a * b
    return found


class Known:
    """lead * the product of the factors."""

    def __init__(self, factors, lead=1):
        self.factors = factors
        self.coefficients = [lead]
        for factor in factors:
            self.coefficients = multiplied(self.coefficients, factor.coefficients)
        self.degree = len(self.coefficients) - 1
        self.roots = Counter(root for factor in factors for root in factor.roots)

    def fits(self):
        """Whether set_polynomial takes it."""
        return self.degree <= 6 and max(map(abs, self.coefficients)) <= 1000

    def is_real_rooted(self):
        return sum(self.roots.values()) == self.degree


def joint_pairs(first, second):
    roots = sorted(set(first.roots) | set(second.roots))
    for low, high in zip(roots, roots[1:]):
        if high - low < 1e-6:
            raise AssertionError("these roots are too near to one another to be told apart here")
    return [(first.roots[root], second.roots[root]) for root in roots]


def leads(first, second):
    """By the words of the document: for each joint root, the roots at least this great are counted."""
    found = []
    for root in set(first.roots) | set(second.roots):
        over = sum(count for other, count in first.roots.items() if other >= root)
        under = sum(count for other, count in second.roots.items() if other >= root)
        found.append(over - under)
    return found


def interlaces(first, second):
    real = first.is_real_rooted() and second.is_real_rooted()
    return real and all(lead in (0, 1) for lead in leads(first, second))


def have_common_interlacing(first, second):
    real = first.is_real_rooted() and second.is_real_rooted()
    return real and first.degree == second.degree and all(lead in (-1, 0, 1) for lead in leads(first, second))


def chosen(source, factors, most_degree, leads_allowed=(1, -1, 2, -3)):
    """A polynomial of factors that the random source picks, not above the degree."""
    while True:
        wanted = source.randint(0, most_degree)
        picked = []
        while sum(factor.degree for factor in picked) < wanted:
            again = picked and source.random() < 0.3
            picked.append(source.choice(picked if again else factors))
        known = Known(picked, source.choice(leads_allowed))
        if known.degree <= most_degree and known.fits():
            return known
