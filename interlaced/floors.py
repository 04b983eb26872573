"""Floors of roots: for a root r and a number of bits, the greatest whole number not above r * 2 ** bits.

The polynomials have whole coefficients and are not zero.
"""

from interlaced.roots import CountedRoots, distinct_part


def root_floor(roots, index, bits):
    """The floor of the root with this index, from 0 in ascending order, for the counted roots of a polynomial."""
    # Up to the floor, no more than the roots ahead of this one lie below; past it, this one does, too.
    scale = 1 << bits
    low = -roots.bound * scale
    high = roots.bound * scale
    while high - low > 1:
        middle = (low + high) // 2
        if roots.count_below(middle, scale) <= index:
            low = middle
        else:
            high = middle
    return low


def distinct_root_floors(polynomial, bits):
    """The floors of all different roots, in ascending order."""
    roots = CountedRoots(distinct_part(polynomial))
    return [root_floor(roots, index, bits) for index in range(roots.total)]


def joint_root_floor(first, second, pairs, place, bits):
    """The floor of the joint root in one place of the pairs of multiplicities."""
    if pairs[place][0] > 0:
        return root_floor(CountedRoots(first), sum([pair[0] for pair in pairs[:place]]), bits)
    return root_floor(CountedRoots(second), sum([pair[1] for pair in pairs[:place]]), bits)
