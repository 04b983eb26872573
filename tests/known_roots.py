"""Polynomials put together of factors whose real roots are known, and what must be answered of them.

The roots here come from the factors alone, never from the program's own way to count roots.
"""

from collections import Counter
from math import floor, sqrt


class Factor:
    """A monic factor that has no rational divisor, with its real roots in ascending order."""

    def __init__(self, coefficients, roots):
        self.coefficients = coefficients
        self.roots = roots
        self.degree = len(coefficients) - 1


def linear(root):
    return Factor([-root, 1], [float(root)])


def quadratic(constant, middle):
    """x ** 2 + middle * x + constant, whose discriminant is no square."""
    discriminant = middle * middle - 4 * constant
    if discriminant < 0:
        return Factor([constant, middle, 1], [])
    roots = [(-middle - sqrt(discriminant)) / 2, (-middle + sqrt(discriminant)) / 2]
    return Factor([constant, middle, 1], roots)


LINEAR = [linear(root) for root in range(-3, 4)]
IRRATIONAL = [quadratic(-2, 0), quadratic(-3, 0), quadratic(-1, -1), quadratic(-1, 1), quadratic(1, -3)]
NOT_REAL = [quadratic(1, 0), quadratic(2, 0), quadratic(1, 1), quadratic(3, -2)]
CUBIC = [
    Factor([1, -3, 0, 1], [-1.8793852415718169, 0.34729635533386083, 1.532088886237956]),
    Factor([-2, 0, 0, 1], [1.2599210498948732]),
]
REAL = LINEAR + IRRATIONAL + CUBIC[:1]
ALL = REAL + NOT_REAL + CUBIC[1:]


def multiplied(left, right):
    found = [0] * (len(left) + len(right) - 1)
    for i, a in enumerate(left):
        for j, b in enumerate(right):
            found[i + j] += a * b
    return found


class Known:
    """lead * the product of the factors."""

    def __init__(self, factors, lead=1):
        self.factors = factors
        self.coefficients = [lead]
        for factor in factors:
            self.coefficients = multiplied(self.coefficients, factor.coefficients)
        self.degree = len(self.coefficients) - 1
        self.roots = Counter(root for factor in factors for root in factor.roots)

    def fits(self):
        """Whether set_polynomial takes it."""
        return self.degree <= 6 and max(map(abs, self.coefficients)) <= 1000

    def is_real_rooted(self):
        return sum(self.roots.values()) == self.degree


def joint_pairs(first, second):
    roots = sorted(set(first.roots) | set(second.roots))
    for low, high in zip(roots, roots[1:]):
        if high - low < 1e-6:
            raise AssertionError("these roots are too near to one another to be told apart here")
    return [(first.roots[root], second.roots[root]) for root in roots]


def leads(first, second):
    """By the words of the document: for each joint root, the roots at least this great are counted."""
    found = {}
    for root in set(first.roots) | set(second.roots):
        over = sum(count for other, count in first.roots.items() if other >= root)
        under = sum(count for other, count in second.roots.items() if other >= root)
        found[root] = over - under
    return found


def interlaces(first, second):
    real = first.is_real_rooted() and second.is_real_rooted()
    return real and all(lead in (0, 1) for lead in leads(first, second).values())


def have_common_interlacing(first, second):
    real = first.is_real_rooted() and second.is_real_rooted()
    near = all(lead in (-1, 0, 1) for lead in leads(first, second).values())
    return real and first.degree == second.degree and near


def floor_of(root, bits):
    """The floor of a root; whole roots are exact here, and the others must be far enough from whole numbers."""
    scaled = root * 2 ** bits
    if root != int(root) and abs(scaled - round(scaled)) < 1e-6:
        raise AssertionError("the floor of this root can't be told here")
    return floor(scaled)


def floors(known, bits):
    """The floors of all roots in ascending order, each root as often as its multiplicity."""
    return [floor_of(root, bits) for root in sorted(known.roots.elements())]


def first_large_lead(first, second, bits):
    large = [root for root, lead in leads(first, second).items() if lead < -1 or lead > 1]
    return [0, floor_of(max(large), bits)] if large else [-34]


def min_root_gap(known, bits):
    different = [floor_of(root, bits) for root in sorted(known.roots)]
    return [0, min(high - low for low, high in zip(different, different[1:]))] if len(different) > 1 else [-34]


def are_proportional(first, second):
    """Two products of such factors are proportional if the factors are the same."""
    return sorted(factor.coefficients for factor in first.factors) == sorted(
        factor.coefficients for factor in second.factors)


def count_above(known, argument):
    return sum(count for root, count in known.roots.items() if root > argument)


def compare_greatest_roots(first, second):
    together = set(first.roots) | set(second.roots)
    if not together:
        return [-34]
    in_first, in_second = max(together) in first.roots, max(together) in second.roots
    return [0] if in_first and in_second else [1] if in_first else [2]


def interlacing_interval(first, second, index, bits):
    if not have_common_interlacing(first, second):
        return [-34]
    if first.degree <= index + 1:
        return [-2]
    one, other = floors(first, bits), floors(second, bits)
    return [0, max(one[index], other[index]), min(one[index + 1], other[index + 1])]


def chosen(source, factors, most_degree, leads_allowed=(1, -1, 2, -3)):
    """A polynomial of factors that the random source picks, not above the degree."""
    while True:
        wanted = source.randint(0, most_degree)
        picked = []
        while sum(factor.degree for factor in picked) < wanted:
            again = picked and source.random() < 0.3
            picked.append(source.choice(picked if again else factors))
        known = Known(picked, source.choice(leads_allowed))
        if known.degree <= most_degree and known.fits():
            return known
