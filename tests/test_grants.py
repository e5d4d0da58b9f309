"""Point 4: mf_would, mf_why, mf_moves, mf_idle."""

import itertools
import unittest

from lines import (HUGE, LineCase, answer_all, answer_last, back, drop, duty, favour, follow, idle, kept, laid, lay_all,
                   mirror, moves, part, row, start, takes, union, why, would)

# Three states, two goods; (0,1) hangs on (1,0), that on (2,0), on both goods.
CHAIN = [start(3, 2)] + lay_all(3, 0, 60) + lay_all(3, 1, 80) + [mirror(0, 1), follow(1, 0, 2)]
NOT_THERE = ((3, 0, 0), (0, 3, 0), (0, 1, 2), (HUGE, 0, 0), (0, HUGE, 0), (0, 1, HUGE), (HUGE, HUGE, HUGE))
# Where two are the same as well, what isn't there is told first.
NOT_THERE_FIRST = ((3, 3, 0), (1, 1, 2), (HUGE, HUGE, 0), (0, 0, HUGE))


def pact_of(n, *calls):
    """All duties 100 of one good but those that the calls lay down."""
    return [start(n, 1)] + lay_all(n, 0, 100) + list(calls)


class RefusedAlike(LineCase):
    def test_of_what_is_not_there(self):
        for before in (CHAIN, CHAIN + [back()]):
            for i, j, g in NOT_THERE + NOT_THERE_FIRST:
                self.assert_refused(before, why(i, j, g), -2)
                self.assert_refused(before, moves(i, j, g), -2)
                for x in (0, 100, 101, HUGE):
                    self.assert_refused(before, would(i, j, g, x), -2)

    def test_of_two(self):
        for i, g in itertools.product(range(3), range(2)):
            self.assert_refused(CHAIN, why(i, i, g), -22)
            self.assert_refused(CHAIN, moves(i, i, g), -22)
            for x in (0, 100, 101):
                self.assert_refused(CHAIN, would(i, i, g, x), -22)

    def test_would_of_more_than_a_hundred(self):
        for i, j, g, x in ((0, 1, 0, 101), (2, 1, 1, 102), (1, 0, 0, HUGE)):
            self.assert_refused(CHAIN, would(i, j, g, x), -22)
            self.assert_refused(CHAIN + [back()], would(i, j, g, x), -22)


class Would(LineCase):
    def assert_would(self, before, i, j, g, x, answer):
        """It answers this, all is as it was, and laid down for real just so much would be more or less."""
        self.assert_as_it_was(before, would(i, j, g, x), answer)
        n, m = before[0][1:]
        rows = [row(a, h) for a in range(n) for h in range(m)]
        given = answer_all(before + rows + [duty(i, j, g, x)] + rows)[len(before):]
        ahead, behind = given[:len(rows)], given[len(rows) + 1:]
        gaps = [abs(a - b) for first, last in zip(ahead, behind) for a, b in zip(first[1:], last[1:])]
        self.assertEqual([sum(gap > 0 for gap in gaps), sum(gaps)], answer)

    def test_without_clauses_its_own_alone(self):
        line = [start(2, 1), duty(0, 1, 0, 40)]
        self.assert_would(line, 0, 1, 0, 40, [0, 0])
        self.assert_would(line, 0, 1, 0, 41, [1, 1])
        self.assert_would(line, 0, 1, 0, 100, [1, 60])
        self.assert_would(line, 0, 1, 0, 39, [1, 1])
        self.assert_would(line, 0, 1, 0, 0, [1, 40])
        self.assert_would(line, 1, 0, 0, 0, [0, 0])
        self.assert_would(line, 1, 0, 0, 100, [1, 100])

    def test_lowered_it_lowers_those_that_hang_on_it(self):
        self.assert_would(CHAIN, 2, 0, 0, 50, [3, 30])
        self.assert_would(CHAIN, 2, 0, 0, 0, [3, 180])
        self.assert_would(CHAIN, 1, 0, 0, 50, [2, 20])
        self.assert_would(CHAIN, 0, 1, 0, 50, [1, 10])
        self.assert_would(CHAIN, 2, 0, 1, 0, [3, 240])

    def test_left_as_it_is_nothing_moves(self):
        for i, j in itertools.permutations(range(3), 2):
            self.assert_would(CHAIN, i, j, 0, 60, [0, 0])
            self.assert_would(CHAIN, i, j, 1, 80, [0, 0])

    def test_raised_it_may_be_held_by_another(self):
        self.assert_would(CHAIN, 0, 1, 0, 100, [0, 0])
        self.assert_would(CHAIN, 1, 0, 0, 100, [0, 0])
        self.assert_would(CHAIN, 2, 0, 0, 100, [1, 40])

    def test_raised_it_raises_those_that_it_held(self):
        line = CHAIN + [duty(2, 0, 0, 10), duty(1, 0, 0, 40)]
        self.assert_would(line, 2, 0, 0, 30, [3, 60])
        self.assert_would(line, 2, 0, 0, 50, [3, 40 + 30 + 30])
        self.assert_would(line, 2, 0, 0, 100, [3, 90 + 30 + 30])

    def test_lowered_to_no_less_than_is_taken(self):
        line = CHAIN + [duty(2, 0, 0, 10)]
        self.assert_would(line, 0, 1, 0, 10, [0, 0])
        self.assert_would(line, 0, 1, 0, 9, [1, 1])

    def test_behind_some_taken_back_these_can_be_done_again(self):
        self.assert_as_it_was(CHAIN + [back()], would(1, 0, 0, 0), [2, 120])
        self.assert_as_it_was(CHAIN + [back()], would(2, 0, 0, 0), [1, 60])

    def test_a_grant_goes_to_all_favoured(self):
        line = pact_of(6, *[favour(0, j) for j in range(1, 5)])
        self.assert_would(line, 0, 5, 0, 0, [5, 500])
        self.assert_would(line, 0, 4, 0, 1, [4, 396])
        self.assert_would(line + [union(0, 5)], 0, 5, 0, 0, [1, 100])


class Why(LineCase):
    def why(self, line, i, j, g=0):
        return answer_last(*line, why(i, j, g))

    def test_on_itself_by_none(self):
        self.assertEqual(self.why([start(2, 1)], 1, 0), [0, 1, 0])
        self.assertEqual(self.why(pact_of(3, duty(1, 2, 0, 7)), 1, 2), [0, 1, 2])
        # Others, told ahead of it, are laid down as low, or lower, but it hangs on none of them.
        self.assertEqual(self.why(pact_of(3, duty(0, 1, 0, 0)), 2, 1), [0, 2, 1])

    def test_itself_ahead_of_another_as_low(self):
        line = pact_of(3, mirror(2, 1), duty(1, 2, 0, 30), duty(2, 1, 0, 30))
        self.assertEqual(self.why(line, 2, 1), [0, 2, 1])
        line = pact_of(3, mirror(2, 1), duty(1, 2, 0, 30), duty(2, 1, 0, 31))
        self.assertEqual(self.why(line, 2, 1), [1, 1, 2])

    def test_each_kind_of_clause(self):
        self.assertEqual(self.why(pact_of(3, mirror(0, 2), duty(2, 0, 0, 5)), 0, 2), [1, 2, 0])
        self.assertEqual(self.why(pact_of(3, follow(0, 2, 1), duty(1, 2, 0, 5)), 0, 2), [1, 1, 2])
        self.assertEqual(self.why(pact_of(3, favour(0, 2), duty(0, 1, 0, 5)), 0, 2), [1, 0, 1])
        self.assertEqual(self.why(pact_of(3, favour(0, 2), duty(0, 1, 0, 5), union(0, 1)), 0, 2), [0, 0, 2])

    def test_a_chain(self):
        chain = [mirror(0, 1), follow(1, 0, 2), favour(2, 0), mirror(2, 3)]
        line = pact_of(4, *chain, duty(3, 2, 0, 11))
        steps = [(0, 1), (1, 0), (2, 0), (2, 3), (3, 2)]
        for c, (i, j) in enumerate(steps):
            self.assertEqual(self.why(line, i, j), [4 - c, 3, 2])
        # Laid down as low on the way, that one is nearer.
        line.append(duty(2, 0, 0, 11))
        self.assertEqual([self.why(line, i, j) for i, j in steps], [
            [2, 2, 0], [1, 2, 0], [0, 2, 0], [1, 3, 2], [0, 3, 2]])

    def test_one_nearer_that_is_not_as_low(self):
        line = pact_of(4, mirror(0, 1), follow(1, 0, 2), duty(0, 1, 0, 50), duty(1, 0, 0, 12), duty(2, 0, 0, 11))
        self.assertEqual(self.why(line, 0, 1), [2, 2, 0])
        self.assertEqual(self.why(line + [duty(1, 0, 0, 10)], 0, 1), [1, 1, 0])

    def test_a_ring(self):
        ring = [follow(0, 3, 1), follow(1, 3, 2), follow(2, 3, 0)]
        line = pact_of(4, *ring, duty(1, 3, 0, 13))
        self.assertEqual([self.why(line, i, 3) for i in range(3)], [[1, 1, 3], [0, 1, 3], [2, 1, 3]])
        line = pact_of(4, *ring)
        self.assertEqual([self.why(line, i, 3) for i in range(3)], [[0, 0, 3], [0, 1, 3], [0, 2, 3]])

    def test_the_shorter_of_two_ways(self):
        # (0,1) hangs on (2,1) straight, and also by way of (1,0), (2,0).
        line = pact_of(3, mirror(0, 1), follow(1, 0, 2), favour(2, 0), duty(2, 1, 0, 4))
        self.assertEqual(self.why(line, 0, 1), [3, 2, 1])
        self.assertEqual(self.why(line + [follow(0, 1, 2)], 0, 1), [1, 2, 1])

    def test_of_two_as_near_the_first_by_who_takes(self):
        low = [duty(1, 3, 0, 6), duty(2, 3, 0, 6)]
        for clauses in itertools.permutations([follow(0, 3, 1), follow(0, 3, 2)]):
            self.assertEqual(self.why(pact_of(4, *clauses, *low), 0, 3), [1, 1, 3])
        # Who takes counts ahead of from whom: (1,3) is ahead of (3,0).
        low = [duty(1, 3, 0, 6), duty(3, 0, 0, 6)]
        for clauses in itertools.permutations([mirror(0, 3), follow(0, 3, 1)]):
            self.assertEqual(self.why(pact_of(4, *clauses, *low), 0, 3), [1, 1, 3])

    def test_of_two_as_near_by_the_same_taker_the_first_from_whom(self):
        line = pact_of(6, favour(3, 0), duty(3, 5, 0, 6), duty(3, 2, 0, 6), duty(3, 1, 0, 7))
        self.assertEqual(self.why(line, 3, 0), [1, 3, 2])
        self.assertEqual(self.why(line + [duty(3, 1, 0, 6)], 3, 0), [1, 3, 1])

    def test_nearer_counts_ahead_of_first(self):
        # (2,3) hangs on (3,2) by one, and on (0,2) by two.
        line = pact_of(4, mirror(2, 3), follow(3, 2, 0), duty(3, 2, 0, 9), duty(0, 2, 0, 9))
        self.assertEqual(self.why(line, 2, 3), [1, 3, 2])

    def test_as_low_but_not_hung_on(self):
        line = pact_of(4, duty(0, 1, 0, 9), duty(1, 2, 0, 9), mirror(2, 3), follow(3, 2, 1))
        self.assertEqual(self.why(line, 2, 3), [2, 1, 2])

    def test_good_by_good(self):
        line = CHAIN + [duty(2, 0, 0, 10), duty(1, 0, 1, 10)]
        self.assertEqual([self.why(line, 0, 1, 0), self.why(line, 0, 1, 1)], [[2, 2, 0], [1, 1, 0]])

    def test_a_way_that_is_dropped_or_parted(self):
        line = pact_of(3, mirror(0, 1), favour(1, 0), duty(1, 2, 0, 5))
        self.assertEqual(self.why(line, 0, 1), [2, 1, 2])
        self.assertEqual(self.why(line + [union(2, 1)], 0, 1), [0, 0, 1])
        self.assertEqual(self.why(line + [union(2, 1), part(1, 2)], 0, 1), [2, 1, 2])
        self.assertEqual(self.why(line + [drop(0)], 0, 1), [0, 0, 1])

    def test_asking_changes_nothing(self):
        self.assert_as_it_was(CHAIN, why(0, 1, 0), [0, 0, 1])
        self.assert_as_it_was(CHAIN + [duty(2, 0, 1, 3), duty(2, 0, 0, 3), back()], why(0, 1, 1), [2, 2, 0])


class Moves(LineCase):
    def moves(self, line, i, j, g=0):
        return answer_last(*line, moves(i, j, g))

    def test_its_own_alone(self):
        self.assertEqual(self.moves([start(2, 1)], 0, 1), [1])
        line = pact_of(6, duty(3, 4, 0, 0))
        self.assertEqual([self.moves(line, i, j) for i, j in itertools.permutations(range(6), 2)], [[1]] * 30)

    def test_none_where_less_is_taken_than_laid_down(self):
        line = [start(2, 1), duty(0, 1, 0, 9), mirror(0, 1)]
        self.assertEqual(self.moves(line, 0, 1), [0])
        self.assertEqual(self.moves(line, 1, 0), [2])

    def test_none_where_another_as_high_does_not_hang_on_it(self):
        # (0,1) is laid down 50 and taken 20; (0,2) is taken 50, but doesn't hang on (0,1).
        line = pact_of(3, duty(0, 1, 0, 50), duty(0, 2, 0, 50), mirror(0, 1), duty(1, 0, 0, 20))
        self.assertEqual(self.moves(line, 0, 1), [0])
        self.assertEqual(self.moves(line, 0, 2), [1])

    def test_a_chain_is_moved_by_its_end(self):
        line = CHAIN + [duty(2, 0, 0, 10)]
        self.assertEqual([self.moves(line, i, j) for i, j in ((2, 0), (1, 0), (0, 1))], [[3], [0], [0]])
        self.assertEqual([self.moves(line, i, j, 1) for i, j in ((2, 0), (1, 0), (0, 1))], [[3], [2], [1]])

    def test_one_that_hangs_on_it_but_is_lower(self):
        line = CHAIN + [duty(0, 1, 0, 5), duty(2, 0, 0, 10)]
        self.assertEqual([self.moves(line, i, j) for i, j in ((2, 0), (1, 0), (0, 1))], [[2], [0], [1]])

    def test_two_as_low_both_move_it(self):
        line = pact_of(4, follow(0, 3, 1), follow(0, 3, 2), duty(1, 3, 0, 6), duty(2, 3, 0, 6))
        self.assertEqual([self.moves(line, i, 3) for i in range(3)], [[0], [2], [2]])

    def test_a_ring(self):
        ring = [follow(0, 3, 1), follow(1, 3, 2), follow(2, 3, 0)]
        self.assertEqual([self.moves(pact_of(4, *ring), i, 3) for i in range(3)], [[3]] * 3)
        line = pact_of(4, *ring, duty(1, 3, 0, 13))
        self.assertEqual([self.moves(line, i, 3) for i in range(3)], [[0], [3], [0]])

    def test_a_nought_is_no_duty_to_itself(self):
        # What a state would take from itself is no duty, though a row shows 0 there.
        for n in range(2, 7):
            line = [start(n, 1)]
            self.assertEqual([self.moves(line, i, j) for i, j in itertools.permutations(range(n), 2)],
                             [[1]] * (n * (n - 1)))

    def test_all_that_are_favoured(self):
        line = pact_of(6, *[favour(0, j) for j in range(1, 5)], duty(0, 5, 0, 20))
        self.assertEqual([self.moves(line, 0, j) for j in range(1, 6)], [[0]] * 4 + [[5]])
        self.assertEqual(self.moves(line + [union(5, 0)], 0, 5), [1])
        self.assertEqual(self.moves(line + [union(5, 0)], 0, 1), [4])

    def test_asking_changes_nothing(self):
        self.assert_as_it_was(CHAIN, moves(2, 0, 0), [3])
        self.assert_as_it_was(CHAIN + [back()], moves(2, 0, 0), [1])


class Idle(LineCase):
    def idle(self, *line):
        answer = answer_last(*line, idle())
        self.assertEqual(len(answer), 17)
        return answer

    def told(self, *flags):
        return [sum(flags)] + list(flags) + [0] * (16 - len(flags))

    def test_no_clause(self):
        self.assertEqual(self.idle(start(2, 1)), [0] * 17)

    def test_one_that_does_nothing_and_one_that_does(self):
        self.assertEqual(self.idle(*pact_of(2, mirror(0, 1))), self.told(1))
        self.assertEqual(self.idle(*pact_of(2, mirror(0, 1), duty(1, 0, 0, 99))), self.told(0))
        self.assertEqual(self.idle(*pact_of(2, mirror(0, 1), duty(0, 1, 0, 99))), self.told(1))

    def test_in_their_order(self):
        line = pact_of(3, duty(1, 0, 0, 5), mirror(2, 1), mirror(0, 1), favour(1, 0), follow(2, 0, 1))
        self.assertEqual(self.idle(*line), self.told(1, 0, 1, 0))
        self.assertEqual(self.idle(*line, drop(0)), self.told(0, 1, 0))
        self.assertEqual(self.idle(*line, drop(1)), self.told(1, 1, 0))

    def test_two_of_which_each_alone_can_go_and_not_both(self):
        line = pact_of(3, duty(1, 0, 0, 5), duty(2, 1, 0, 5), mirror(0, 1), follow(0, 1, 2))
        self.assertEqual(self.idle(*line), self.told(1, 1))
        for c in range(2):
            self.assertEqual(self.idle(*line, drop(c)), self.told(0))

    def test_two_ways_to_one_duty(self):
        # (0,1) hangs on (2,1) straight, and by way of (1,0), (2,0).
        line = pact_of(3, duty(2, 1, 0, 4), follow(0, 1, 2), mirror(0, 1), follow(1, 0, 2), favour(2, 0))
        self.assertEqual(self.idle(*line), self.told(1, 1, 0, 0))

    def test_a_favour_that_unions_leave_with_nothing(self):
        line = pact_of(4, duty(0, 2, 0, 5), duty(0, 3, 0, 6), favour(0, 1))
        self.assertEqual(self.idle(*line), self.told(0))
        self.assertEqual(self.idle(*line, union(0, 2)), self.told(0))
        self.assertEqual(self.idle(*line, union(0, 2), union(3, 0)), self.told(1))

    def test_a_favour_of_two_states(self):
        self.assertEqual(self.idle(start(2, 1), duty(0, 1, 0, 9), favour(0, 1)), self.told(1))

    def test_one_good_is_enough_to_need_it(self):
        line = [start(2, 3)] + [mirror(0, 1)]
        self.assertEqual(self.idle(*line), self.told(1))
        for g in range(3):
            self.assertEqual(self.idle(*line, duty(0, 1, g, 1)), self.told(0))

    def test_a_ring_whose_duties_are_alike(self):
        ring = [follow(0, 3, 1), follow(1, 3, 2), follow(2, 3, 0)]
        self.assertEqual(self.idle(*pact_of(4, *ring)), self.told(1, 1, 1))
        self.assertEqual(self.idle(*pact_of(4, *ring, duty(1, 3, 0, 13))), self.told(0, 1, 0))

    def test_sixteen(self):
        pairs = list(itertools.permutations(range(6), 2))
        line = pact_of(6, *[favour(i, j) for i, j in pairs[:16]])
        self.assertEqual(self.idle(*line), [16] + [1] * 16)
        # State 0 favours all the others, so do 1 and 2; state 3 favours 0 alone.
        given = self.idle(*line, duty(0, 5, 0, 1))
        self.assertEqual(given, self.told(*[0 if i == 0 and j != 5 else 1 for i, j in pairs[:16]]))
        given = self.idle(*line, duty(3, 5, 0, 1))
        self.assertEqual(given, self.told(*[1] * 15, 0))

    def test_asking_changes_nothing(self):
        line = pact_of(2, mirror(0, 1), duty(1, 0, 0, 99))
        self.assert_as_it_was(line, idle(), self.told(0))
        self.assert_as_it_was(line + [back()], idle(), self.told(1))
        given = answer_all(line + [idle(), laid(0, 1, 0), takes(0, 1, 0), kept()])
        self.assertEqual(given[-3:], [[100], [99], [0]])


if __name__ == "__main__":
    unittest.main()
