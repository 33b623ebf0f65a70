"""How far the askings of a question may move before the first least set is no longer least.

A fraction is a tuple: its numerator, its denominator.
"""

from indexesneeded.choices import costs_with, least_sets, one_asking_cost, set_cost, sets_within

NO_END = (-1, 0)


def margin_of(costs, room, question):
    """The least and the greatest number of askings, as fractions in lowest terms."""
    first = least_sets(costs, room)[0]
    low = (0, 1)
    high = NO_END
    for other in sets_within(costs, room):
        # The first one stays least beside the other one as long as x times dearer is no more than ahead.
        dearer = one_asking_cost(costs, question, first) - one_asking_cost(costs, question, other)
        ahead = unasked_cost(costs, question, other) - unasked_cost(costs, question, first)
        if dearer > 0 and (high == NO_END or is_less((ahead, dearer), high)):
            high = (ahead, dearer)
        if dearer < 0 and is_less(low, (-ahead, -dearer)):
            low = (-ahead, -dearer)
    return (in_lowest_terms(low), high if high == NO_END else in_lowest_terms(high))


def unasked_cost(costs, question, chosen):
    """What the set costs if this question isn't asked at all."""
    oftens = list(costs.oftens)
    oftens[question] = 0
    return set_cost(costs_with(costs, oftens), chosen)


def is_less(one, other):
    """Whether one fraction is less than the other one."""
    return one[0] * other[1] < other[0] * one[1]


def in_lowest_terms(fraction):
    """The same fraction in lowest terms."""
    divisor = greatest_divisor(fraction[0], fraction[1])
    return (fraction[0] // divisor, fraction[1] // divisor)


def greatest_divisor(one, other):
    """The greatest number that divides both."""
    while other != 0:
        rest = one % other
        one = other
        other = rest
    return one
