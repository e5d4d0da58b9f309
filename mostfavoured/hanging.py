"""Which duties one hangs on, by how few clauses, and which clauses do nothing."""

from mostfavoured.pact import without_clause
from mostfavoured.taken import bounds_of_all, taken_of, taken_of_all


def bounds_by_duty(pact):
    """For each duty, as (who takes, from whom), that a clause bounds, those that it is to be no more than."""
    bounds = {}
    for pair in bounds_of_all(pact):
        bounds.setdefault(pair[0], []).append(pair[1])
    return bounds


def hangs_by(bounds, duty):
    """Each duty that this one hangs on, itself among them, with the fewest clauses by which it does."""
    found = {duty: 0}
    nearest = [duty]
    steps = 0
    while len(nearest) > 0:
        steps += 1
        behind = []
        for near in nearest:
            for bound in bounds.get(near, []):
                if bound not in found:
                    found[bound] = steps
                    behind.append(bound)
        nearest = behind
    return found


def least_laid(rows, hung):
    return min([rows[duty[0]][duty[1]] for duty in hung])


def nearest_as_low(pact, g, i, j):
    """The fewest clauses by which this duty hangs on one laid down as low as it is taken, then that one."""
    rows = pact.laid[g]
    hung = hangs_by(bounds_by_duty(pact), (i, j))
    least = least_laid(rows, hung)
    return min([(hung[duty], duty[0], duty[1]) for duty in hung if rows[duty[0]][duty[1]] == least])


def moved_by(pact, g, i, j):
    """The duties on good g, as (who takes, from whom), that hang on this one and are taken as it is laid down."""
    laid = pact.laid[g][i][j]
    bounds = bounds_by_duty(pact)
    takes = taken_of(pact, g)
    moved = []
    for taker in range(pact.states):
        for payer in range(pact.states):
            duty = (taker, payer)
            if taker != payer and takes[taker][payer] == laid and (i, j) in hangs_by(bounds, duty):
                moved.append(duty)
    return moved


def is_idle(pact, takes, c):
    # The clause's own duty tells of all: nothing is taken any lower without the clause, so that if that duty
    # is taken as before, it is still no more than what the clause bounds it by. Then the clause is kept
    # even so, and nothing else is any higher either.
    i = pact.clauses[c][1]
    j = pact.clauses[c][2]
    hung = hangs_by(bounds_by_duty(without_clause(pact, c)), (i, j))
    return all([least_laid(pact.laid[g], hung) == takes[g][i][j] for g in range(pact.goods)])


def idle_clauses(pact):
    """For each clause 1 if without it just as much is taken everywhere, else 0."""
    takes = taken_of_all(pact)
    return [1 if is_idle(pact, takes, c) else 0 for c in range(len(pact.clauses))]
