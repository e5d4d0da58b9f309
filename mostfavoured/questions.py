"""The calls that only ask of a pact: each answers a list of numbers, a refusal its number alone."""

from mostfavoured.hanging import idle_clauses, moved_by, nearest_as_low
from mostfavoured.pact import MOST_CLAUSES, with_duty
from mostfavoured.refusals import NO_REFUSAL, NONE_THERE, refusal_of_duty, refusal_of_laying, refusal_of_row
from mostfavoured.taken import falls_of, gaps_between, is_kept, taken_of

ROW_LENGTH = 6


def mf_clause(pact, c):
    if c >= len(pact.clauses):
        return [NONE_THERE]
    return list(pact.clauses[c])


def mf_laid(pact, i, j, g):
    refusal = refusal_of_duty(pact, i, j, g)
    if refusal != NO_REFUSAL:
        return [refusal]
    return [pact.laid[g][i][j]]


def mf_takes(pact, i, j, g):
    refusal = refusal_of_duty(pact, i, j, g)
    if refusal != NO_REFUSAL:
        return [refusal]
    return [taken_of(pact, g)[i][j]]


def mf_row(pact, i, g):
    refusal = refusal_of_row(pact, i, g)
    if refusal != NO_REFUSAL:
        return [refusal]
    row = taken_of(pact, g)[i]
    return [sum(row)] + row + [0] * (ROW_LENGTH - len(row))


def mf_falls(pact):
    falls = falls_of(pact)
    return [len(falls), sum(falls)]


def mf_would(pact, i, j, g, x):
    refusal = refusal_of_laying(pact, i, j, g, x)
    if refusal != NO_REFUSAL:
        return [refusal]
    gaps = gaps_between(taken_of(pact, g), taken_of(with_duty(pact, i, j, g, x), g))
    return [len(gaps), sum(gaps)]


def mf_why(pact, i, j, g):
    refusal = refusal_of_duty(pact, i, j, g)
    if refusal != NO_REFUSAL:
        return [refusal]
    return list(nearest_as_low(pact, g, i, j))


def mf_moves(pact, i, j, g):
    refusal = refusal_of_duty(pact, i, j, g)
    if refusal != NO_REFUSAL:
        return [refusal]
    return [len(moved_by(pact, g, i, j))]


def mf_kept(pact):
    return [1 if is_kept(pact) else 0]


def mf_alike(pact, i, g):
    refusal = refusal_of_row(pact, i, g)
    if refusal != NO_REFUSAL:
        return [refusal]
    row = taken_of(pact, g)[i]
    from_others = row[:i] + row[i + 1:]
    return [1 if min(from_others) == max(from_others) else 0]


def mf_idle(pact):
    idle = idle_clauses(pact)
    return [sum(idle)] + idle + [0] * (MOST_CLAUSES - len(idle))
