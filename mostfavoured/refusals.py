"""The numbers that are answered where a call is refused, and the refusals that many calls share."""

from mostfavoured.pact import HIGHEST_DUTY, has_good, has_state

NO_REFUSAL = 0
NONE_THERE = -2
NOT_IN_UNION = -6
THERE_ALREADY = -17
UNFIT = -22
FULL = -28


def refusal_of_two(pact, i, j):
    if not has_state(pact, i) or not has_state(pact, j):
        return NONE_THERE
    if i == j:
        return UNFIT
    return NO_REFUSAL


def refusal_of_duty(pact, i, j, g):
    # A good that isn't there is told ahead of two states that are the same.
    if not has_good(pact, g):
        return NONE_THERE
    return refusal_of_two(pact, i, j)


def refusal_of_laying(pact, i, j, g, x):
    refusal = refusal_of_duty(pact, i, j, g)
    if refusal == NO_REFUSAL and x > HIGHEST_DUTY:
        return UNFIT
    return refusal


def refusal_of_row(pact, i, g):
    if not has_state(pact, i) or not has_good(pact, g):
        return NONE_THERE
    return NO_REFUSAL
