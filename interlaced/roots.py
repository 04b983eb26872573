"""Real roots of polynomials with whole coefficients, counted and told apart exactly.

A polynomial here is not zero. Roots are counted by Sturm's theorem: a chain of polynomials that
begins with one without multiple roots has, from one number to a greater one, as many sign
variations less as there are roots above the first and up to the second.
"""

from interlaced.whole_polynomials import (
    common_divisor, degree_of, derivative_of, exact_quotient, primitive_part, remainder_of, scaled_value)


class Span:
    """The numbers above low / scale and up to high / scale, with the joint variations at both ends."""

    def __init__(self, low, high, scale, at_low, at_high):
        self.low = low
        self.high = high
        self.scale = scale
        self.at_low = at_low
        self.at_high = at_high

    def root_count(self):
        """How many joint roots lie in the span."""
        return self.at_low - self.at_high


def root_layers(polynomial):
    """Polynomials without multiple roots; a root of multiplicity m is a root of just the first m."""
    layers = []
    rest = primitive_part(polynomial)
    while degree_of(rest) > 0:
        repeated = common_divisor(rest, derivative_of(rest))
        layers.append(exact_quotient(rest, repeated))
        rest = repeated
    return layers


def distinct_part(polynomial):
    """A polynomial that has the same roots, each of them once."""
    layers = root_layers(polynomial)
    if len(layers) > 0:
        return layers[0]
    return [1]


def sturm_chain(polynomial):
    """The Sturm chain of a polynomial without multiple roots."""
    chain = [polynomial]
    follower = derivative_of(polynomial)
    while len(follower) > 0:
        rest = remainder_of(chain[-1], follower)
        chain.append(follower)
        follower = [-coefficient for coefficient in rest]
    return chain


def layer_chains(polynomial):
    """The Sturm chains of all layers."""
    return [sturm_chain(layer) for layer in root_layers(polynomial)]


def variations(chain, numerator, denominator):
    """How often the sign changes along the chain's values at numerator / denominator, zeros left out."""
    values = [scaled_value(polynomial, numerator, denominator) for polynomial in chain]
    below_zero = [value < 0 for value in values if value != 0]
    count = 0
    for place in range(1, len(below_zero)):
        if below_zero[place] != below_zero[place - 1]:
            count += 1
    return count


def total_variations(chains, numerator, denominator):
    """The sum of the variations of several chains."""
    return sum([variations(chain, numerator, denominator) for chain in chains])


def root_bound(polynomial):
    """A whole number above the absolute value of every root."""
    # Cauchy: no root is farther from 0 than 1 + the greatest coefficient over the last one.
    greatest = max([abs(coefficient) for coefficient in polynomial])
    return greatest // abs(polynomial[-1]) + 2


def count_in_span(chains, span):
    """The number of roots in a span, counted with multiplicity, for the chains of all layers."""
    below = total_variations(chains, span.low, span.scale)
    return below - total_variations(chains, span.high, span.scale)


class CountedRoots:
    """The roots of one polynomial, each counted as often as its multiplicity."""

    def __init__(self, polynomial):
        self.chains = layer_chains(polynomial)
        self.bound = root_bound(polynomial)
        self.at_bound = total_variations(self.chains, self.bound, 1)
        self.total = self.count_above(-self.bound, 1)

    def count_above(self, numerator, denominator):
        """The number of roots above numerator / denominator."""
        return total_variations(self.chains, numerator, denominator) - self.at_bound

    def count_below(self, numerator, denominator):
        """The number of roots below numerator / denominator."""
        values = [scaled_value(chain[0], numerator, denominator) for chain in self.chains]
        return self.total - self.count_above(numerator, denominator) - values.count(0)


class JointRoots:
    """The different roots of at least one of two polynomials."""

    def __init__(self, first, second):
        first_part = distinct_part(first)
        second_part = distinct_part(second)
        self.chains = [sturm_chain(first_part), sturm_chain(second_part)]
        self.shared_chain = sturm_chain(common_divisor(first_part, second_part))
        self.bound = max(root_bound(first), root_bound(second))

    def joint_variations(self, numerator, denominator):
        """A number that falls, from one number to a greater one, by the count of joint roots between."""
        # Each root of both polynomials is counted in both chains, so once too often.
        counted = total_variations(self.chains, numerator, denominator)
        return counted - variations(self.shared_chain, numerator, denominator)

    def whole_span(self):
        """A span with all joint roots in it."""
        at_low = self.joint_variations(-self.bound, 1)
        at_high = self.joint_variations(self.bound, 1)
        return Span(-self.bound, self.bound, 1, at_low, at_high)

    def halves(self, span):
        """The upper and the lower half of a span."""
        middle = span.low + span.high
        scale = 2 * span.scale
        at_middle = self.joint_variations(middle, scale)
        lower = Span(2 * span.low, middle, scale, span.at_low, at_middle)
        upper = Span(middle, 2 * span.high, scale, at_middle, span.at_high)
        return [upper, lower]

    def single_spans(self):
        """For each joint root, in ascending order, a span with this one alone in it."""
        found = []
        pending = [self.whole_span()]
        while len(pending) > 0:
            span = pending.pop()
            if span.root_count() == 1:
                found.append(span)
            if span.root_count() > 1:
                # The lower half comes last, so that it is taken first.
                pending.extend(self.halves(span))
        return found


def joint_pairs(first, second):
    """For each joint root, in ascending order, its multiplicity in the first and in the second polynomial."""
    first_chains = layer_chains(first)
    second_chains = layer_chains(second)
    spans = JointRoots(first, second).single_spans()
    return [(count_in_span(first_chains, span), count_in_span(second_chains, span)) for span in spans]
