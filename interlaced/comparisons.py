"""What is said of polynomials with whole coefficients that are not zero, mostly by the order of their roots."""

from interlaced.roots import CountedRoots, joint_pairs
from interlaced.whole_polynomials import degree_of


def real_rooted(polynomial):
    """Whether the multiplicities of the real roots add up to the degree."""
    return CountedRoots(polynomial).total == degree_of(polynomial)


def leads(pairs):
    """The lead after each joint root, in ascending order, from the pairs of multiplicities."""
    found = []
    lead = sum([first_multiplicity - second_multiplicity for first_multiplicity, second_multiplicity in pairs])
    for first_multiplicity, second_multiplicity in pairs:
        found.append(lead)
        lead -= first_multiplicity - second_multiplicity
    return found


def greatest_large_lead(pairs):
    """The place of the greatest joint root after which the lead is below -1 or above 1, or None."""
    places = [place for place, lead in enumerate(leads(pairs)) if abs(lead) > 1]
    if len(places) == 0:
        return None
    return places[-1]


def leads_within(first, second, lowest, highest):
    """Whether both are real-rooted and the lead after every joint root is from lowest to highest."""
    if not real_rooted(first) or not real_rooted(second):
        return False
    return all([lowest <= lead <= highest for lead in leads(joint_pairs(first, second))])


def second_interlaces_first(first, second):
    """Whether the second polynomial interlaces the first one."""
    return leads_within(first, second, 0, 1)


def commonly_interlaced(first, second):
    """Whether the two polynomials have a common interlacing."""
    return degree_of(first) == degree_of(second) and leads_within(first, second, -1, 1)


def proportional(first, second):
    """Whether one polynomial is the other one times a number."""
    if degree_of(first) != degree_of(second):
        return False
    return all([left * second[-1] == right * first[-1] for left, right in zip(first, second)])
