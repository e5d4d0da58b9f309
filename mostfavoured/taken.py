"""What is taken in the end, under the clauses and unions of a pact."""

from mostfavoured.pact import FOLLOW, MIRROR, copy_rows, in_union


def bounds_of(pact, clause):
    """The duties, as (who takes, from whom), that this clause has its own duty (i, j) be no more than."""
    kind = clause[0]
    i = clause[1]
    j = clause[2]
    if kind == MIRROR:
        return [(j, i)]
    if kind == FOLLOW:
        return [(clause[3], j)]
    return [(i, k) for k in range(pact.states) if k != i and k != j and not in_union(pact, i, k)]


def bounds_of_all(pact):
    """Pairs of duties: by some clause the first is to be no more than the second, of each good alike."""
    pairs = []
    for clause in pact.clauses:
        for bound in bounds_of(pact, clause):
            pairs.append(((clause[1], clause[2]), bound))
    return pairs


def is_kept(pact):
    """Whether the duties, as they are laid down, keep all clauses."""
    pairs = bounds_of_all(pact)
    for rows in pact.laid:
        for pair in pairs:
            duty = pair[0]
            bound = pair[1]
            if rows[duty[0]][duty[1]] > rows[bound[0]][bound[1]]:
                return False
    return True


def lower_once(takes, pairs):
    """Go through all pairs once, lowering in takes what is too high; whether any was."""
    fell = False
    for pair in pairs:
        duty = pair[0]
        bound = pair[1]
        most = takes[bound[0]][bound[1]]
        if takes[duty[0]][duty[1]] > most:
            takes[duty[0]][duty[1]] = most
            fell = True
    return fell


def taken_of(pact, g):
    """What each state takes of good g from each other one, in rows like those laid down."""
    # Each duty falls only as far as a clause asks, so that they end as high as may be;
    # each fall is to a lower one of the numbers laid down, so that they do end.
    takes = copy_rows(pact.laid[g])
    pairs = bounds_of_all(pact)
    falling = True
    while falling:
        falling = lower_once(takes, pairs)
    return takes


def taken_of_all(pact):
    return [taken_of(pact, g) for g in range(pact.goods)]


def gaps_between(rows, others):
    """Of each duty of one good that isn't the same in both, by how much it is more or less."""
    gaps = []
    for i in range(len(rows)):
        for j in range(len(rows)):
            if rows[i][j] != others[i][j]:
                gaps.append(abs(rows[i][j] - others[i][j]))
    return gaps


def falls_of(pact):
    """Of each duty, of all goods, of which less is taken than laid down, how much less."""
    falls = []
    for g in range(pact.goods):
        falls.extend(gaps_between(pact.laid[g], taken_of(pact, g)))
    return falls
