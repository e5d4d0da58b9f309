"""A pact: what the states have laid down and promised at one time."""

FAVOUR = 1
MIRROR = 2
FOLLOW = 3

MOST_CLAUSES = 16
HIGHEST_DUTY = 100


# A pact is never changed: a change makes another one, so that an earlier one stays as it was.
# laid[g][i][j] is what state i lays down for j on good g (0 where i is j).
# A clause is (kind, i, j, k), k being 0 but of FOLLOW; a union is a pair of states, the lower one first.
class Pact:
    def __init__(self, states, goods, laid, clauses, unions):
        self.states = states
        self.goods = goods
        self.laid = laid
        self.clauses = clauses
        self.unions = unions


def new_pact(states, goods):
    laid = []
    for g in range(goods):
        laid.append([[0] * states for i in range(states)])
    return Pact(states, goods, laid, [], [])


def copy_rows(rows):
    return [list(row) for row in rows]


def with_laid(pact, laid):
    return Pact(pact.states, pact.goods, laid, pact.clauses, pact.unions)


def with_duty(pact, i, j, g, x):
    laid = [copy_rows(rows) for rows in pact.laid]
    laid[g][i][j] = x
    return with_laid(pact, laid)


def with_clauses(pact, clauses):
    return Pact(pact.states, pact.goods, pact.laid, clauses, pact.unions)


def without_clause(pact, c):
    return with_clauses(pact, pact.clauses[:c] + pact.clauses[c + 1:])


def with_unions(pact, unions):
    return Pact(pact.states, pact.goods, pact.laid, pact.clauses, unions)


def has_state(pact, i):
    return i < pact.states


def has_good(pact, g):
    return g < pact.goods


def union_of(i, j):
    """The one form in which a union of two states is kept, whichever of them is told first."""
    return (min(i, j), max(i, j))


def in_union(pact, i, j):
    return union_of(i, j) in pact.unions
