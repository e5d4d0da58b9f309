"""The calls that begin or change a pact: each answers a list of numbers, a refusal its number alone."""

from mostfavoured.pact import FAVOUR, FOLLOW, MIRROR, MOST_CLAUSES, has_state, in_union, new_pact, union_of
from mostfavoured.pact import with_clauses, with_duty, with_laid, with_unions, without_clause
from mostfavoured.refusals import FULL, NO_REFUSAL, NONE_THERE, NOT_IN_UNION, THERE_ALREADY, UNFIT
from mostfavoured.refusals import refusal_of_laying, refusal_of_two
from mostfavoured.taken import falls_of, taken_of_all

FEWEST_STATES = 2
MOST_STATES = 6
FEWEST_GOODS = 1
MOST_GOODS = 3


def mf_start(ledger, n, m):
    if n < FEWEST_STATES or n > MOST_STATES or m < FEWEST_GOODS or m > MOST_GOODS:
        return [UNFIT]
    ledger.begin(new_pact(n, m))
    return [0]


def mf_duty(ledger, i, j, g, x):
    pact = ledger.pact
    refusal = refusal_of_laying(pact, i, j, g, x)
    if refusal != NO_REFUSAL:
        return [refusal]
    ledger.change_to(with_duty(pact, i, j, g, x))
    return [pact.laid[g][i][j]]


def mf_favour(ledger, i, j):
    return add_clause_of_two(ledger, FAVOUR, i, j)


def mf_mirror(ledger, i, j):
    return add_clause_of_two(ledger, MIRROR, i, j)


def mf_follow(ledger, i, j, k):
    pact = ledger.pact
    if not has_state(pact, i) or not has_state(pact, j) or not has_state(pact, k):
        return [NONE_THERE]
    if i == j or i == k or j == k:
        return [UNFIT]
    return add_clause(ledger, (FOLLOW, i, j, k))


def add_clause_of_two(ledger, kind, i, j):
    refusal = refusal_of_two(ledger.pact, i, j)
    if refusal != NO_REFUSAL:
        return [refusal]
    return add_clause(ledger, (kind, i, j, 0))


def add_clause(ledger, clause):
    pact = ledger.pact
    if clause in pact.clauses:
        return [THERE_ALREADY]
    if len(pact.clauses) == MOST_CLAUSES:
        return [FULL]
    ledger.change_to(with_clauses(pact, pact.clauses + [clause]))
    return [len(pact.clauses)]


def mf_drop(ledger, c):
    pact = ledger.pact
    if c >= len(pact.clauses):
        return [NONE_THERE]
    left = without_clause(pact, c)
    ledger.change_to(left)
    return [len(left.clauses)]


def mf_union(ledger, i, j):
    pact = ledger.pact
    refusal = refusal_of_two(pact, i, j)
    if refusal != NO_REFUSAL:
        return [refusal]
    if in_union(pact, i, j):
        return [THERE_ALREADY]
    unions = pact.unions + [union_of(i, j)]
    ledger.change_to(with_unions(pact, unions))
    return [len(unions)]


def mf_part(ledger, i, j):
    pact = ledger.pact
    if not has_state(pact, i) or not has_state(pact, j):
        return [NONE_THERE]
    if not in_union(pact, i, j):
        return [NOT_IN_UNION]
    parted = union_of(i, j)
    left = [pair for pair in pact.unions if pair != parted]
    ledger.change_to(with_unions(pact, left))
    return [len(left)]


def mf_settle(ledger):
    pact = ledger.pact
    fell = falls_of(pact)
    if len(fell) == 0:
        return [THERE_ALREADY]
    ledger.change_to(with_laid(pact, taken_of_all(pact)))
    return [len(fell)]
