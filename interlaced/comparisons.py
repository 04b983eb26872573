"""What is said of polynomials with whole coefficients that are not zero, by the order of their roots."""

from interlaced.roots import count_all_roots, joint_pairs
from interlaced.whole_polynomials import degree_of


def real_rooted(polynomial):
    """Whether the multiplicities of the real roots add up to the degree."""
    return count_all_roots(polynomial) == degree_of(polynomial)


def leads(first, second):
    """The lead of the first polynomial over the second after each joint root, from the greatest one down."""
    found = []
    lead = 0
    for first_multiplicity, second_multiplicity in reversed(joint_pairs(first, second)):
        lead += first_multiplicity - second_multiplicity
        found.append(lead)
    return found


def leads_within(first, second, lowest, highest):
    """Whether both are real-rooted and the lead after every joint root is from lowest to highest."""
    if not real_rooted(first) or not real_rooted(second):
        return False
    return all([lowest <= lead <= highest for lead in leads(first, second)])


def second_interlaces_first(first, second):
    """Whether the second polynomial interlaces the first one."""
    return leads_within(first, second, 0, 1)


def commonly_interlaced(first, second):
    """Whether the two polynomials have a common interlacing."""
    return degree_of(first) == degree_of(second) and leads_within(first, second, -1, 1)
