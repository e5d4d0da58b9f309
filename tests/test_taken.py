"""What is taken: chains and rings of clauses, favours and unions, good by good."""

import itertools
import random
import unittest

from lines import (LineCase, answer_all, drop, duty, favour, follow, lay_all, laid, mirror, part, row, start, takes,
                   union)
from reckoning import bounded_by, draw, least_of_all_hung_on


class ByHand(LineCase):
    def taken(self, n, calls, asked, g=0):
        """What is taken of each pair asked for, all duties being 100 but those that the calls lay down."""
        given = answer_all([start(n, 3)] + lay_all(n, g, 100) + calls + [takes(i, j, g) for i, j in asked])
        return [answer[0] for answer in given[len(given) - len(asked):]]

    def test_without_clauses_what_is_laid_down(self):
        self.assertEqual(self.taken(2, [duty(0, 1, 0, 3)], [(0, 1), (1, 0)]), [3, 100])

    def test_mirror_is_one_way(self):
        self.assertEqual(self.taken(2, [duty(1, 0, 0, 5), mirror(0, 1)], [(0, 1), (1, 0)]), [5, 5])
        self.assertEqual(self.taken(2, [duty(0, 1, 0, 5), mirror(0, 1)], [(0, 1), (1, 0)]), [5, 100])

    def test_mirrored_both_ways_both_take_as_much(self):
        both = [mirror(0, 1), mirror(1, 0)]
        self.assertEqual(self.taken(3, both + [duty(0, 1, 0, 8)], [(0, 1), (1, 0), (0, 2)]), [8, 8, 100])
        self.assertEqual(self.taken(3, both + [duty(1, 0, 0, 8)], [(0, 1), (1, 0), (2, 0)]), [8, 8, 100])

    def test_follow_is_towards_the_second(self):
        calls = [follow(0, 1, 2), duty(2, 1, 0, 6), duty(2, 0, 0, 1), duty(1, 2, 0, 2), duty(0, 2, 0, 3)]
        self.assertEqual(self.taken(3, calls, [(0, 1), (2, 1), (0, 2)]), [6, 6, 3])

    def test_favour_looks_at_every_third_state(self):
        for k in (2, 3, 4, 5):
            calls = [favour(0, 1), duty(0, k, 0, 40 + k)]
            self.assertEqual(self.taken(6, calls, [(0, 1), (0, k), (1, 0)]), [40 + k, 40 + k, 100])

    def test_favour_of_two_states_asks_for_nothing(self):
        self.assertEqual(self.taken(2, [favour(0, 1), duty(1, 0, 0, 0)], [(0, 1)]), [100])

    def test_favour_does_not_look_at_a_third_state_in_union(self):
        calls = [favour(0, 1), duty(0, 2, 0, 10), duty(0, 3, 0, 20)]
        asked = [(0, 1)]
        self.assertEqual(self.taken(4, calls, asked), [10])
        self.assertEqual(self.taken(4, calls + [union(0, 2)], asked), [20])
        self.assertEqual(self.taken(4, calls + [union(2, 0)], asked), [20])
        self.assertEqual(self.taken(4, calls + [union(0, 2), union(3, 0)], asked), [100])
        self.assertEqual(self.taken(4, calls + [union(0, 2), part(2, 0)], asked), [10])

    def test_other_unions_do_not_matter_to_a_favour(self):
        calls = [favour(0, 1), duty(0, 2, 0, 10), duty(0, 3, 0, 20)]
        for others in ([union(0, 1)], [union(1, 2)], [union(2, 3)], [union(0, 1), union(1, 2)], [union(0, 3)]):
            self.assertEqual(self.taken(4, calls + others, [(0, 1)]), [10])

    def test_unions_do_not_matter_to_mirror_and_follow(self):
        unions = [union(0, 1), union(0, 2), union(1, 2)]
        self.assertEqual(self.taken(3, [mirror(0, 1), duty(1, 0, 0, 4)] + unions, [(0, 1)]), [4])
        self.assertEqual(self.taken(3, [follow(0, 1, 2), duty(2, 1, 0, 4)] + unions, [(0, 1)]), [4])

    def test_two_clauses_onto_one_duty(self):
        two = [mirror(0, 1), follow(0, 1, 2)]
        for clauses in (two, two[::-1]):
            self.assertEqual(self.taken(3, clauses + [duty(1, 0, 0, 7), duty(2, 1, 0, 9)], [(0, 1)]), [7])
            self.assertEqual(self.taken(3, clauses + [duty(1, 0, 0, 9), duty(2, 1, 0, 7)], [(0, 1)]), [7])
            self.assertEqual(self.taken(3, clauses + [duty(0, 1, 0, 5), duty(2, 1, 0, 7)], [(0, 1)]), [5])

    def test_a_chain_of_all_three_kinds_in_whatever_order(self):
        # (0,1) by a mirror on (1,0); that by a follow on (2,0); that by a favour on (2,3); that by a mirror on (3,2).
        chain = [mirror(0, 1), follow(1, 0, 2), favour(2, 0), mirror(2, 3)]
        for clauses in itertools.permutations(chain):
            calls = list(clauses) + [duty(3, 2, 0, 11)]
            self.assertEqual(self.taken(4, calls, [(3, 2), (2, 3), (2, 0), (1, 0), (0, 1), (2, 1), (0, 2)]),
                             [11, 11, 11, 11, 11, 100, 100])

    def test_a_chain_that_is_cut(self):
        calls = [mirror(0, 1), follow(1, 0, 2), mirror(2, 0), duty(0, 2, 0, 11), drop(1)]
        self.assertEqual(self.taken(3, calls, [(2, 0), (1, 0), (0, 1)]), [11, 100, 100])

    def test_a_ring_of_follows_takes_the_least(self):
        ring = [follow(0, 3, 1), follow(1, 3, 2), follow(2, 3, 0)]
        for low in range(3):
            calls = ring + [duty(low, 3, 0, 13)]
            self.assertEqual(self.taken(4, calls, [(0, 3), (1, 3), (2, 3), (3, 0)]), [13, 13, 13, 100])

    def test_a_ring_of_all_three_kinds(self):
        # (0,1) on (1,0), on (2,0) by a follow, on (2,1) by a favour, on (0,1) by a follow.
        ring = [mirror(0, 1), follow(1, 0, 2), favour(2, 0), follow(2, 1, 0)]
        members = [(0, 1), (1, 0), (2, 0), (2, 1)]
        for low in members:
            calls = ring + [duty(low[0], low[1], 0, 17)]
            self.assertEqual(self.taken(3, calls, members + [(0, 2), (1, 2)]), [17, 17, 17, 17, 100, 100])

    def test_all_favoured_all_pay_the_least(self):
        calls = [favour(0, j) for j in (1, 2, 3, 4, 5)] + [duty(0, 4, 0, 21)]
        self.assertEqual(self.taken(6, calls, [(0, j) for j in (1, 2, 3, 4, 5)]), [21] * 5)

    def test_good_by_good(self):
        calls = [start(3, 3)] + lay_all(3, 0, 100) + lay_all(3, 1, 50) + lay_all(3, 2, 70)
        calls += [favour(0, 1), mirror(1, 0), duty(0, 2, 1, 3), duty(0, 1, 2, 4)]
        calls += [row(i, g) for g in range(3) for i in range(3)]
        self.assertEqual(answer_all(calls)[-9:], [
            [200, 0, 100, 100, 0, 0, 0], [200, 100, 0, 100, 0, 0, 0], [200, 100, 100, 0, 0, 0, 0],
            [6, 0, 3, 3, 0, 0, 0], [53, 3, 0, 50, 0, 0, 0], [100, 50, 50, 0, 0, 0, 0],
            [74, 0, 4, 70, 0, 0, 0], [74, 4, 0, 70, 0, 0, 0], [140, 70, 70, 0, 0, 0, 0],
        ])

    def test_what_fell_rises_again_with_what_is_laid_down(self):
        self.assert_answers([
            (start(2, 1), [0]), (duty(0, 1, 0, 90), [0]), (mirror(0, 1), [0]), (takes(0, 1, 0), [0]),
            (duty(1, 0, 0, 30), [0]), (takes(0, 1, 0), [30]), (duty(1, 0, 0, 100), [30]), (takes(0, 1, 0), [90]),
            (laid(0, 1, 0), [90]),
        ])

    def test_the_longest_chain_of_sixteen_clauses(self):
        # Follows and mirrors in turn, each behind the other, told from the far end or from the near one.
        chain = longest_chain(6, 16)
        last = chain[-1][1]
        for clauses in ([call for call, pair in chain], [call for call, pair in reversed(chain)]):
            given = answer_all([start(6, 1)] + lay_all(6, 0, 100) + [duty(last[0], last[1], 0, 1)] + clauses
                               + [takes(0, 1, 0)])
            self.assertEqual(given[-17:-1], [[c] for c in range(16)])
            self.assertEqual(given[-1], [1])


def longest_chain(n, length):
    """So many clauses, each with the duty that it bounds the one before by, through duties all different."""
    ways = [([], [(0, 1)])]
    while ways:
        chain, seen = ways.pop()
        if len(chain) == length:
            return chain
        i, j = seen[-1]
        steps = [(mirror(i, j), (j, i))] + [(follow(i, j, k), (k, j)) for k in range(n) if k not in (i, j)]
        ways += [(chain + [step], seen + [step[1]]) for step in steps if step[1] not in seen]


class AgainstTheWords(LineCase):
    """Many pacts, drawn the same way each time, against the least of all duties that one hangs on."""

    def line_of(self, n, m, chosen, joined, duties):
        calls = [start(n, m)] + chosen + [union(i, j) for i, j in joined]
        for g in range(m):
            calls += [duty(i, j, g, x) for (i, j), x in duties[g].items()]
        asked = [(i, j, g) for g in range(m) for i, j in duties[g]]
        return calls + [takes(i, j, g) for i, j, g in asked], asked

    def check(self, n, m, chosen, joined, duties):
        calls, asked = self.line_of(n, m, chosen, joined, duties)
        given = answer_all(calls)[len(calls) - len(asked):]
        bounds = bounded_by(chosen, [{i, j} for i, j in joined], n)
        expected = [least_of_all_hung_on(duties[g], bounds) for g in range(m)]
        self.assertEqual(given, [[expected[g][i, j]] for i, j, g in asked], (chosen, joined, duties))
        return expected, bounds

    def test_all_sizes(self):
        source = random.Random(20)
        for n, m in itertools.product(range(2, 7), range(1, 4)):
            for tries in range(12):
                drawn = draw(source, n, m, source.randint(0, 16), source.randint(0, 5), source.choice((3, 100)))
                self.check(n, m, *drawn)

    def test_six_states_with_sixteen_clauses(self):
        source = random.Random(16)
        for tries in range(60):
            self.check(6, 3, *draw(source, 6, 3, 16, source.randint(0, 15), 100))

    def test_as_much_as_may_be(self):
        # Every other choice of duties that keeps the clauses is gone through: nowhere is it more.
        source = random.Random(3)
        for tries in range(15):
            chosen, joined, duties = draw(source, 3, 1, source.randint(1, 6), source.randint(0, 2), 2)
            expected, bounds = self.check(3, 1, chosen, joined, duties)
            pairs = list(duties[0])
            self.assertTrue(self.kept(expected[0], bounds))
            for choice in itertools.product(*[range(duties[0][pair] + 1) for pair in pairs]):
                other = dict(zip(pairs, choice))
                if self.kept(other, bounds):
                    self.assertTrue(all(other[pair] <= expected[0][pair] for pair in pairs))

    def kept(self, duties, bounds):
        return all(duties[pair] <= duties[other] for pair in duties for other in bounds[pair])

    def test_a_clause_more_no_more_taken_and_a_union_more_no_less(self):
        source = random.Random(7)
        for tries in range(40):
            chosen, joined, duties = draw(source, 5, 1, 10, 3, 100)
            fewer = self.taken(5, chosen[:-1], joined, duties)
            whole = self.taken(5, chosen, joined, duties)
            apart = self.taken(5, chosen, joined[:-1], duties)
            self.assertTrue(all(more >= less for more, less in zip(fewer, whole)))
            self.assertTrue(all(more >= less for more, less in zip(whole, apart)))

    def taken(self, n, chosen, joined, duties):
        calls, asked = self.line_of(n, 1, chosen, joined, duties)
        return [answer[0] for answer in answer_all(calls)[len(calls) - len(asked):]]

    def test_in_whatever_order_clauses_stand(self):
        source = random.Random(9)
        for tries in range(30):
            chosen, joined, duties = draw(source, 6, 1, 16, 4, 100)
            shuffled = source.sample(chosen, len(chosen))
            self.assertEqual(self.taken(6, shuffled, joined, duties), self.taken(6, chosen, joined, duties))


if __name__ == "__main__":
    unittest.main()
