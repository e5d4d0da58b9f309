"""A plain reckoning of what the calls are to answer, told anew from the words of the document.

It keeps no pacts: it keeps the changes, and goes through all of them once more whenever one is taken back.
"""

import itertools

from lines import favour, follow, mirror

START, DUTY, FAVOUR, MIRROR, FOLLOW, DROP, CLAUSE, UNION, PART, LAID, TAKES, ROW = range(12)
FALLS, WOULD, WHY, MOVES, KEPT, SETTLE, ALIKE, IDLE, BACK, AGAIN, STATE = range(12, 23)
CHANGES = (DUTY, FAVOUR, MIRROR, FOLLOW, DROP, UNION, PART, SETTLE)
KIND = {FAVOUR: 1, MIRROR: 2, FOLLOW: 3}


def bounded_by(clauses, unions, n):
    """For each duty those that a clause has it be no more than."""
    bounds = {pair: set() for pair in itertools.permutations(range(n), 2)}
    for call in clauses:
        i, j = call[1], call[2]
        if call[0] == FAVOUR:
            thirds = set(range(n)) - {i, j} - {k for k in range(n) if {i, k} in unions}
            bounds[i, j] |= {(i, k) for k in thirds}
        elif call[0] == MIRROR:
            bounds[i, j].add((j, i))
        else:
            bounds[i, j].add((call[3], j))
    return bounds


def hung_on(bounds, pair):
    reached = {pair}
    ahead = [pair]
    while ahead:
        for other in bounds[ahead.pop()] - reached:
            reached.add(other)
            ahead.append(other)
    return reached


def hung_by(bounds, pair):
    """The fewest clauses to each duty hung on: one more than the fewest of all that it may come through."""
    fewest = {other: 0 if other == pair else 1000 for other in bounds}
    for rounds in bounds:
        for near in bounds:
            for other in bounds[near]:
                fewest[other] = min(fewest[other], fewest[near] + 1)
    return {other: by for other, by in fewest.items() if by < 1000}


def least_of_all_hung_on(duties, bounds):
    return {pair: min(duties[other] for other in hung_on(bounds, pair)) for pair in duties}


def every_clause(n):
    pairs = list(itertools.permutations(range(n), 2))
    every = [favour(i, j) for i, j in pairs] + [mirror(i, j) for i, j in pairs]
    return every + [follow(i, j, k) for i, j, k in itertools.permutations(range(n), 3)]


def draw(source, n, m, clauses, unions, highest):
    """So many clauses and unions of n states, if there are as many, and the duties of m goods."""
    every = every_clause(n)
    chosen = source.sample(every, min(clauses, len(every)))
    joined = source.sample(list(itertools.combinations(range(n), 2)), min(unions, n * (n - 1) // 2))
    pairs = list(itertools.permutations(range(n), 2))
    duties = [{pair: source.randint(0, highest) for pair in pairs} for g in range(m)]
    return chosen, joined, duties


class Reckoning:
    def __init__(self):
        self.start = None

    def answer(self, call):
        if call[0] == START:
            return self.begin(call)
        if call[0] == BACK:
            return self.take_back()
        if call[0] == AGAIN:
            return self.do_again()
        if call[0] in CHANGES:
            answer = self.change(call)
            if answer[0] >= 0:
                self.done = (self.done + [call])
                self.can_back = min(self.can_back + 1, 20)
                self.undone = []
            return answer
        return self.ask(call)

    def begin(self, call):
        n, m = call[1:]
        if not (2 <= n <= 6 and 1 <= m <= 3):
            return [-22]
        self.start, self.done, self.undone, self.can_back = call, [], [], 0
        self.clear()
        return [0]

    def clear(self):
        self.n, self.m = self.start[1:]
        self.pairs = list(itertools.permutations(range(self.n), 2))
        self.laid = [{pair: 0 for pair in self.pairs} for g in range(self.m)]
        self.clauses = []
        self.unions = []

    def go_through(self):
        self.clear()
        for call in self.done:
            self.change(call)

    def take_back(self):
        if self.can_back == 0:
            return [-2]
        self.undone.append(self.done.pop())
        self.can_back -= 1
        self.go_through()
        return [self.can_back]

    def do_again(self):
        if not self.undone:
            return [-2]
        self.done.append(self.undone.pop())
        self.can_back += 1
        self.go_through()
        return [len(self.undone)]

    def lacks(self, states, goods=()):
        return any(i >= self.n for i in states) or any(g >= self.m for g in goods)

    def taken(self, clauses=None, laid=None):
        bounds = bounded_by(self.clauses if clauses is None else clauses, self.unions, self.n)
        return [least_of_all_hung_on(duties, bounds) for duties in (laid or self.laid)]

    def gaps(self, some, others):
        every = [abs(some[g][pair] - others[g][pair]) for g in range(self.m) for pair in self.pairs]
        return [gap for gap in every if gap]

    def change(self, call):
        number, rest = call[0], call[1:]
        if number == DUTY:
            return self.lay(*rest)
        if number in KIND:
            return self.promise(call)
        if number == DROP:
            if rest[0] >= len(self.clauses):
                return [-2]
            del self.clauses[rest[0]]
            return [len(self.clauses)]
        if number == SETTLE:
            taken = self.taken()
            fell = len(self.gaps(taken, self.laid))
            self.laid = taken
            return [fell or -17]
        return self.join_or_part(number, *rest)

    def lay(self, i, j, g, x):
        if self.lacks([i, j], [g]):
            return [-2]
        if i == j or x > 100:
            return [-22]
        was = self.laid[g][i, j]
        self.laid[g][i, j] = x
        return [was]

    def promise(self, call):
        if self.lacks(call[1:]):
            return [-2]
        if len(set(call[1:])) < len(call[1:]):
            return [-22]
        if call in self.clauses:
            return [-17]
        if len(self.clauses) == 16:
            return [-28]
        self.clauses.append(call)
        return [len(self.clauses) - 1]

    def join_or_part(self, number, i, j):
        if self.lacks([i, j]):
            return [-2]
        if number == PART and {i, j} not in self.unions:
            return [-6]
        if number == PART:
            self.unions.remove({i, j})
            return [len(self.unions)]
        if i == j:
            return [-22]
        if {i, j} in self.unions:
            return [-17]
        self.unions.append({i, j})
        return [len(self.unions)]

    def ask(self, call):
        number, rest = call[0], call[1:]
        if number == CLAUSE:
            return self.tell_clause(rest[0])
        if number in (ROW, ALIKE):
            return self.ask_row(number, *rest)
        if number in (LAID, TAKES, WHY, MOVES):
            return self.ask_duty(number, *rest)
        if number == WOULD:
            return self.ask_would(*rest)
        if number == IDLE:
            taken = self.taken()
            idle = [int(self.taken(self.clauses[:c] + self.clauses[c + 1:]) == taken)
                    for c in range(len(self.clauses))]
            return [sum(idle)] + (idle + [0] * 16)[:16]
        if number == STATE:
            return [len(self.clauses), self.n, self.m, len(self.unions), self.can_back, len(self.undone)]
        fell = self.gaps(self.taken(), self.laid)
        return [len(fell), sum(fell)] if number == FALLS else [int(not fell)]

    def tell_clause(self, c):
        if c >= len(self.clauses):
            return [-2]
        call = self.clauses[c]
        return ([KIND[call[0]]] + call[1:] + [0])[:4]

    def ask_row(self, number, i, g):
        if self.lacks([i], [g]):
            return [-2]
        row = {j: x for (a, j), x in self.taken()[g].items() if a == i}
        if number == ALIKE:
            return [int(len(set(row.values())) == 1)]
        return [sum(row.values())] + [row.get(j, 0) for j in range(6)]

    def ask_duty(self, number, i, j, g):
        if self.lacks([i, j], [g]):
            return [-2]
        if i == j:
            return [-22]
        laid, taken = self.laid[g], self.taken()[g]
        bounds = bounded_by(self.clauses, self.unions, self.n)
        if number == LAID:
            return [laid[i, j]]
        if number == TAKES:
            return [taken[i, j]]
        if number == MOVES:
            return [sum(taken[pair] == laid[i, j] and (i, j) in hung_on(bounds, pair) for pair in self.pairs)]
        by = hung_by(bounds, (i, j))
        fewest = min(by[pair] for pair in by if laid[pair] == taken[i, j])
        first = [pair for pair in self.pairs if by.get(pair) == fewest and laid[pair] == taken[i, j]][0]
        return [fewest] + list(first)

    def ask_would(self, i, j, g, x):
        if self.lacks([i, j], [g]):
            return [-2]
        if i == j or x > 100:
            return [-22]
        other = [dict(duties) for duties in self.laid]
        other[g][i, j] = x
        moved = self.gaps(self.taken(), self.taken(laid=other))
        return [len(moved), sum(moved)]
