"""The calls that only ask of a pact: each answers a list of numbers, a refusal its number alone."""

from mostfavoured.pact import has_good, has_state
from mostfavoured.refusals import NO_REFUSAL, NONE_THERE, refusal_of_duty
from mostfavoured.taken import taken_of

ROW_LENGTH = 6


def mf_clause(pact, c):
    if c >= len(pact.clauses):
        return [NONE_THERE]
    return list(pact.clauses[c])


def mf_laid(pact, i, j, g):
    refusal = refusal_of_duty(pact, i, j, g)
    if refusal != NO_REFUSAL:
        return [refusal]
    return [pact.laid[g][i][j]]


def mf_takes(pact, i, j, g):
    refusal = refusal_of_duty(pact, i, j, g)
    if refusal != NO_REFUSAL:
        return [refusal]
    return [taken_of(pact, g)[i][j]]


def mf_row(pact, i, g):
    if not has_state(pact, i) or not has_good(pact, g):
        return [NONE_THERE]
    row = taken_of(pact, g)[i]
    return [sum(row)] + row + [0] * (ROW_LENGTH - len(row))
