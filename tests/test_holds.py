"""What holds, over pacts drawn the same way each time, and whole lines of calls against a plain reckoning."""

import itertools
import random
import unittest

import reckoning
from lines import (HUGE, LineCase, again, alike, answer_all, back, drop, duty, falls, favour, idle, kept, laid, mirror,
                   moves, part, row, settle, start, takes, union, why, would)
from reckoning import Reckoning, bounded_by, draw, every_clause, hung_by, hung_on, least_of_all_hung_on

SIZES = list(itertools.product(range(2, 7), range(1, 4)))


class Drawn:
    """A pact as drawn, the line of calls that makes it, and what is to be taken under it."""

    def __init__(self, source, n, m, clauses, unions):
        # Few different duties make many that are as low as one another.
        highest = source.choice((2, 5, 100))
        self.n, self.m = n, m
        self.clauses, self.joined, self.duties = draw(source, n, m, clauses, unions, highest)
        self.pairs = list(itertools.permutations(range(n), 2))
        self.bounds = bounded_by(self.clauses, [{i, j} for i, j in self.joined], n)
        self.taken = [least_of_all_hung_on(duties, self.bounds) for duties in self.duties]
        self.line = [start(n, m)] + self.clauses + [union(i, j) for i, j in self.joined]
        for g in range(m):
            self.line += [duty(i, j, g, x) for (i, j), x in self.duties[g].items()]
        self.all = [(i, j, g) for g in range(m) for i, j in self.pairs]

    def ask(self, *calls):
        return answer_all(self.line + list(calls))[len(self.line):]

    def takes_behind(self, *calls):
        """What is taken of all duties behind these calls, in the order of self.all."""
        return [answer[0] for answer in self.ask(*calls, *[takes(*one) for one in self.all])[len(calls):]]


def drawn_pacts(seed, tries):
    source = random.Random(seed)
    for (n, m), count in itertools.product(SIZES, range(tries)):
        yield source, Drawn(source, n, m, source.choice((0, 3, 8, 16, 16)), source.choice((0, 1, 4, 15)))


class WhatHolds(LineCase):
    def test_as_much_as_may_be(self):
        for source, drawn in drawn_pacts(1, 6):
            taken = drawn.takes_behind()
            self.assert_same(taken, [drawn.taken[g][i, j] for i, j, g in drawn.all])
            # Laid down as taken all clauses are kept.
            lower = [duty(i, j, g, x) for (i, j, g), x in zip(drawn.all, taken)]
            self.assertEqual(drawn.ask(*lower, kept())[-1], [1])
            # Whatever else keeps them and is no more than laid down: one drawn, lowered till it keeps them.
            for g in range(drawn.m):
                other = {pair: source.randint(0, drawn.duties[g][pair]) for pair in drawn.pairs}
                while any(other[pair] > other[b] for pair in drawn.pairs for b in drawn.bounds[pair]):
                    other = {pair: min([other[pair]] + [other[b] for b in drawn.bounds[pair]]) for pair in drawn.pairs}
                self.assertTrue(all(other[pair] <= drawn.taken[g][pair] for pair in drawn.pairs))

    def test_in_whatever_order_they_are_lowered(self):
        for source, drawn in drawn_pacts(2, 2):
            duties = [dict(one) for one in drawn.duties]
            lowered = []
            while True:
                broken = [(pair, b, g) for g in range(drawn.m) for pair in drawn.pairs for b in drawn.bounds[pair]
                          if duties[g][pair] > duties[g][b]]
                if not broken:
                    break
                pair, b, g = source.choice(broken)
                duties[g][pair] = duties[g][b]
                lowered.append(duty(*pair, g, duties[g][b]))
            given = drawn.ask(*lowered, *[laid(*one) for one in drawn.all], kept(), settle())
            self.assertEqual(given[-2:], [[1], [-17]])
            self.assert_same(given[len(lowered):-2], [[drawn.taken[g][i, j]] for i, j, g in drawn.all])

    def test_settled_nothing_falls_any_more(self):
        for source, drawn in drawn_pacts(3, 6):
            gaps = [drawn.duties[g][i, j] - drawn.taken[g][i, j] for i, j, g in drawn.all]
            fell = sum(gap > 0 for gap in gaps)
            given = drawn.ask(falls(), kept(), settle(), falls(), kept(), settle())
            self.assertEqual(given, [[fell, sum(gaps)], [int(fell == 0)], [fell or -17], [0, 0], [1], [-17]])
            self.assert_same(drawn.takes_behind(settle()), drawn.takes_behind())

    def test_a_clause_more_no_more_taken_and_a_union_more_no_less(self):
        for source, drawn in drawn_pacts(4, 4):
            whole = drawn.takes_behind()
            if drawn.clauses:
                without = drawn.takes_behind(drop(source.randrange(len(drawn.clauses))))
                self.assertTrue(all(more >= less for more, less in zip(without, whole)))
            if drawn.joined:
                apart = drawn.takes_behind(part(*source.choice(drawn.joined)))
                self.assertTrue(all(more >= less for more, less in zip(whole, apart)))

    def test_why_by_no_fewer_clauses_on_any_as_low(self):
        for source, drawn in drawn_pacts(5, 2):
            given = drawn.ask(*[why(*one) for one in drawn.all])
            for (i, j, g), (by, a, b) in zip(drawn.all, given):
                hung = hung_by(drawn.bounds, (i, j))
                as_low = [(hung[pair], *pair) for pair in hung if drawn.duties[g][pair] == drawn.taken[g][i, j]]
                self.assertEqual((by, a, b), min(as_low), (drawn.line, i, j, g))

    def test_moves_are_those_that_hang_on_it_and_are_as_high(self):
        for source, drawn in drawn_pacts(6, 2):
            given = drawn.ask(*[moves(*one) for one in drawn.all])
            hung = {pair: hung_on(drawn.bounds, pair) for pair in drawn.pairs}
            for (i, j, g), answer in zip(drawn.all, given):
                moved = [pair for pair in drawn.pairs
                         if (i, j) in hung[pair] and drawn.taken[g][pair] == drawn.duties[g][i, j]]
                self.assertEqual(answer, [len(moved)], (drawn.line, i, j, g))

    def test_would_is_what_laying_it_down_does(self):
        for source, drawn in drawn_pacts(7, 4):
            before = drawn.takes_behind()
            for x in (0, 100, source.randint(0, 100)):
                i, j, g = source.choice(drawn.all)
                gaps = [abs(a - b) for a, b in zip(before, drawn.takes_behind(duty(i, j, g, x)))]
                self.assertEqual(drawn.ask(would(i, j, g, x))[0], [sum(gap > 0 for gap in gaps), sum(gaps)])
                self.assert_same(drawn.takes_behind(would(i, j, g, x)), before)

    def test_idle_is_what_dropping_it_does(self):
        for source, drawn in drawn_pacts(8, 3):
            before = drawn.takes_behind()
            told = [int(drawn.takes_behind(drop(c)) == before) for c in range(len(drawn.clauses))]
            self.assertEqual(drawn.ask(idle())[0], [sum(told)] + told + [0] * (16 - len(told)), drawn.line)

    def test_none_better_off_than_whom_it_favours(self):
        for source, drawn in drawn_pacts(9, 4):
            for call in drawn.clauses:
                if call[0] == reckoning.FAVOUR and not any(call[1] in pair for pair in drawn.joined):
                    for g in range(drawn.m):
                        given = drawn.ask(row(call[1], g))[0][1:1 + drawn.n]
                        self.assertEqual(given[call[2]], min(x for k, x in enumerate(given) if k != call[1]))

    def test_all_favoured_without_unions_all_are_alike(self):
        for source, drawn in drawn_pacts(10, 2):
            i = source.randrange(drawn.n)
            apart = [part(*pair) for pair in drawn.joined] + [drop(0)] * len(drawn.clauses)
            favoured = [favour(i, j) for j in range(drawn.n) if j != i]
            given = drawn.ask(*apart, *favoured, *[alike(i, g) for g in range(drawn.m)])
            self.assertEqual(given[-drawn.m:], [[1]] * drawn.m)

    def test_mirrored_both_ways_both_take_as_much(self):
        for source, drawn in drawn_pacts(11, 4):
            i, j = source.choice(drawn.pairs)
            room = [drop(0), drop(0)] if len(drawn.clauses) > 14 else []
            both = room + [mirror(i, j), mirror(j, i)]
            for g in range(drawn.m):
                given = drawn.ask(*both, takes(i, j, g), takes(j, i, g))
                self.assertEqual(given[-1], given[-2])

    def test_good_by_good(self):
        for source, drawn in drawn_pacts(12, 4):
            i, j, g = source.choice(drawn.all)
            moved = drawn.takes_behind(duty(i, j, g, source.randint(0, 100)))
            for (a, b, h), x in zip(drawn.all, moved):
                if h != g:
                    self.assertEqual(x, drawn.taken[h][a, b])

    def test_taken_back_all_is_as_it_was(self):
        asked = [idle(), falls(), kept()]
        for source, drawn in drawn_pacts(13, 4):
            look = [laid(*one) for one in drawn.all] + [takes(*one) for one in drawn.all] + asked
            before = drawn.ask(*look)
            i, j, g = source.choice(drawn.all)
            changes = [duty(i, j, g, source.randint(0, 100)), drop(0), union(i, j), part(i, j), settle()]
            changes.append(source.choice(every_clause(drawn.n)))
            for change in changes:
                refused = drawn.ask(change)[0][0] < 0
                gone = [change] if refused else [change, back()]
                self.assert_same(drawn.ask(*gone, *look)[len(gone):], before, change)
                if not refused:
                    behind = drawn.ask(change, *look)[1:]
                    self.assert_same(drawn.ask(*gone, again(), *look)[3:], behind, change)


class AgainstTheReckoning(LineCase):
    def number(self, source, below):
        """Most of the time one that is there."""
        if source.random() < 0.03:
            return source.choice((below, below + 1, HUGE))
        return source.randrange(below)

    def call(self, source, n, m):
        numbers = [reckoning.DUTY] * 6 + [reckoning.FAVOUR, reckoning.MIRROR, reckoning.FOLLOW] * 3
        numbers += [reckoning.BACK] * 5 + [reckoning.AGAIN] * 4 + [reckoning.SETTLE] * 2 + list(range(1, 23))
        number = source.choice(numbers)
        i, j, k = [self.number(source, n) for state in range(3)]
        g = self.number(source, m)
        x = source.choice((0, 1, 2, 3, 50, 99, 100, 100, 101 if source.random() < 0.2 else 7))
        if number in (reckoning.DUTY, reckoning.WOULD):
            return [number, i, j, g, x]
        if number == reckoning.FOLLOW:
            return [number, i, j, k]
        if number in (reckoning.FAVOUR, reckoning.MIRROR, reckoning.UNION, reckoning.PART):
            return [number, i, j]
        if number in (reckoning.DROP, reckoning.CLAUSE):
            return [number, self.number(source, 10)]
        if number in (reckoning.LAID, reckoning.TAKES, reckoning.WHY, reckoning.MOVES):
            return [number, i, j, g]
        if number in (reckoning.ROW, reckoning.ALIKE):
            return [number, i, g]
        return [number]

    def check(self, source, n, m, length):
        line = [start(n, m)]
        while len(line) < length:
            line.append(self.call(source, n, m))
            if source.random() < 0.003:
                n, m = source.choice(((n, m), (source.randint(2, 6), source.randint(1, 3))))
                line.append(start(n, m))
            if source.random() < 0.005:
                line.append(start(source.choice((0, 1, 7)), m))
        plain = Reckoning()
        for at, (call, answer) in enumerate(zip(line, answer_all(line))):
            self.assertEqual(answer, plain.answer(call), line[:at + 1])

    def test_lines_of_all_sizes(self):
        source = random.Random(21)
        for n, m in SIZES:
            for tries in range(3):
                self.check(source, n, m, 120)

    def test_long_lines(self):
        source = random.Random(22)
        self.check(source, 3, 1, 1000)
        self.check(source, 4, 2, 600)
        self.check(source, 6, 3, 300)


if __name__ == "__main__":
    unittest.main()
