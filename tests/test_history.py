"""Points 1 and 5: mf_back, mf_again, mf_state, and what counts among the changes."""

import itertools
import unittest

from lines import (HUGE, LineCase, again, alike, answer_all, ask_everything, back, clause, drop, duty, falls, favour,
                   follow, idle, kept, laid, mirror, moves, part, row, settle, start, state, takes, union, why, would)

START = start(3, 2)
# Each call that is a change, some of them twice; one duty is laid down as it is already.
CHANGES = [duty(0, 1, 0, 50), duty(0, 1, 0, 50), duty(1, 0, 0, 20), duty(2, 1, 1, 70), mirror(0, 1), favour(2, 1),
           follow(1, 0, 2), union(1, 2), union(0, 2), part(2, 1), settle(), drop(1), duty(0, 1, 0, 0), drop(0)]
QUESTIONS = [clause(0), laid(0, 1, 0), takes(0, 1, 0), row(0, 0), falls(), would(0, 1, 0, 100), why(0, 1, 0),
             moves(0, 1, 0), kept(), alike(0, 0), idle(), state()]
# With one clause, one union and no duty to fall: behind it each of these is refused.
QUIET = [START, duty(2, 1, 0, 8), favour(2, 1), union(0, 2), drop(0), mirror(0, 1)]
REFUSED = [(start(1, 1), -22), (start(7, 4), -22), (duty(3, 0, 0, 1), -2), (duty(0, 0, 0, 1), -22),
           (duty(0, 1, 0, 101), -22), (favour(3, 0), -2), (favour(1, 1), -22), (mirror(0, 3), -2), (mirror(2, 2), -22),
           (follow(0, 1, 3), -2), (follow(0, 1, 1), -22), (drop(1), -2), (drop(HUGE), -2), (union(0, 3), -2),
           (union(1, 1), -22), (part(3, 0), -2), (part(1, 1), -6), (part(0, 1), -6), (settle(), -17), (clause(9), -2),
           (laid(0, 1, 2), -2), (takes(0, 0, 0), -22), (row(3, 0), -2), (would(0, 1, 0, 101), -22), (why(0, 1, 2), -2),
           (moves(1, 1, 1), -22), (alike(0, 2), -2)]


def duties(count, first=1):
    """So many changes, each of which lays down one more of the same duty."""
    return [duty(0, 1, 0, x) for x in range(first, first + count)]


def state_of(line):
    return answer_all(line + [state()])[-1]


class State(LineCase):
    def test_where_all_is_new(self):
        for n, m in itertools.product(range(2, 7), range(1, 4)):
            self.assertEqual(state_of([start(n, m)]), [0, n, m, 0, 0, 0])

    def test_each_number(self):
        line = [start(5, 2), duty(0, 1, 0, 4), favour(0, 1), mirror(1, 2), follow(3, 4, 0), union(1, 2), union(3, 4),
                back(), duty(0, 1, 0, 5), duty(0, 1, 0, 6), duty(0, 1, 0, 7), back(), back()]
        self.assertEqual(state_of(line), [3, 5, 2, 1, 6, 2])

    def test_clauses_and_unions_come_and_go(self):
        self.assert_answers([
            (START, [0]), (favour(0, 1), [0]), (state(), [1, 3, 2, 0, 1, 0]), (union(0, 1), [1]),
            (state(), [1, 3, 2, 1, 2, 0]), (drop(0), [0]), (state(), [0, 3, 2, 1, 3, 0]), (part(1, 0), [0]),
            (state(), [0, 3, 2, 0, 4, 0]), (back(), [3]), (state(), [0, 3, 2, 1, 3, 1]), (back(), [2]), (back(), [1]),
            (state(), [1, 3, 2, 0, 1, 3]), (back(), [0]), (state(), [0, 3, 2, 0, 0, 4]), (back(), [-2]),
            (state(), [0, 3, 2, 0, 0, 4]),
        ])

    def test_full(self):
        pairs = list(itertools.permutations(range(6), 2))
        line = [start(6, 3)] + [mirror(i, j) for i, j in pairs[:16]] + [union(i, j) for i, j in pairs if i < j]
        self.assertEqual(state_of(line), [16, 6, 3, 15, 20, 0])

    def test_asking_changes_nothing(self):
        self.assert_as_it_was([START] + CHANGES, state(), [1, 3, 2, 1, 14, 0])
        self.assert_as_it_was([START] + CHANGES + [back()] * 4, state(), [3, 3, 2, 1, 10, 4])


class BackAndAgain(LineCase):
    def test_nothing_to_take_back_or_do_again(self):
        for line in ([START], [START] + QUESTIONS[1:], [START] + CHANGES + [start(2, 1)]):
            self.assertEqual(answer_all(line + [back(), again()])[-2:], [[-2], [-2]])
        self.assert_refused([START], back(), -2)
        self.assert_refused([START], again(), -2)
        self.assert_refused([START] + CHANGES, again(), -2)
        self.assert_refused([START] + CHANGES + [back()] * len(CHANGES), back(), -2)
        self.assert_refused([START] + CHANGES + [back()] * 3 + [again()] * 3, again(), -2)

    def test_each_change_counts_as_one(self):
        for count in range(len(CHANGES) + 1):
            self.assertEqual(state_of([START] + CHANGES[:count])[4:], [count, 0])

    def test_settle_is_one_change_however_many_fall(self):
        line = [START, duty(0, 1, 0, 9), duty(0, 1, 1, 8), duty(0, 2, 1, 8), mirror(0, 1), mirror(0, 2)]
        self.assertEqual(answer_all(line + [settle(), state(), back(), falls(), again(), kept()])[-6:], [
            [3], [2, 3, 2, 0, 6, 0], [5], [3, 25], [0], [1]])

    def test_what_is_told_is_how_many_can_still_be(self):
        line = [START] + CHANGES
        count = len(CHANGES)
        given = answer_all(line + [back()] * (count + 1) + [again()] * (count + 1))[len(line):]
        down = [[left] for left in range(count - 1, -1, -1)] + [[-2]]
        self.assertEqual(given, down + down)

    def test_taken_back_all_is_as_it_was(self):
        # How many can be taken back and done again is told apart; all else is as if the change had not been made.
        look = ask_everything(3, 2)
        for count in range(len(CHANGES)):
            for far in range(len(CHANGES) - count + 1):
                gone = [START] + CHANGES[:count + far] + [back()] * far
                given = answer_all(gone + look)[len(gone):]
                self.assert_same(given, answer_all([START] + CHANGES[:count] + look)[count + 1:], (count, far))
                self.assertEqual(state_of(gone)[4:], [count, far])

    def test_done_again_all_is_as_it_was_then(self):
        look = ask_everything(3, 2)
        line = [START] + CHANGES + [back()] * len(CHANGES)
        for count in range(len(CHANGES) + 1):
            given = answer_all(line + [again()] * count + look)[len(line) + count:]
            self.assert_same(given, answer_all([START] + CHANGES[:count] + look)[count + 1:], count)
            self.assertEqual(state_of(line + [again()] * count)[4:], [count, len(CHANGES) - count])

    def test_back_and_forth(self):
        self.assert_answers([
            (START, [0]), (duty(0, 1, 0, 1), [0]), (duty(0, 1, 0, 2), [1]), (duty(0, 1, 0, 3), [2]),
            (back(), [2]), (laid(0, 1, 0), [2]), (again(), [0]), (laid(0, 1, 0), [3]), (back(), [2]), (back(), [1]),
            (laid(0, 1, 0), [1]), (again(), [1]), (laid(0, 1, 0), [2]), (back(), [1]), (back(), [0]),
            (laid(0, 1, 0), [0]), (back(), [-2]), (again(), [2]), (again(), [1]), (again(), [0]), (again(), [-2]),
            (laid(0, 1, 0), [3]),
        ])

    def test_a_dropped_clause_comes_back_where_it_was(self):
        self.assert_answers([
            (START, [0]), (favour(0, 1), [0]), (mirror(1, 2), [1]), (follow(2, 0, 1), [2]), (drop(1), [2]),
            (clause(1), [3, 2, 0, 1]), (back(), [3]), (clause(1), [2, 1, 2, 0]), (clause(2), [3, 2, 0, 1]),
            (mirror(1, 2), [-17]), (again(), [0]), (clause(1), [3, 2, 0, 1]), (clause(2), [-2]),
        ])

    def test_a_change_behind_some_that_were_taken_back(self):
        line = [START] + duties(5) + [back()] * 3
        for change in (duty(0, 1, 0, 2), duty(1, 2, 1, 9), favour(0, 1), mirror(2, 1), follow(0, 1, 2), union(0, 1)):
            given = answer_all(line + [state(), change, state(), again(), back(), laid(0, 1, 0), again(), state()])
            self.assertEqual(given[len(line)][4:], [2, 3], change)
            self.assertEqual(given[len(line) + 2][4:], [3, 0], change)
            self.assertEqual(given[len(line) + 3:-1], [[-2], [2], [2], [0]], change)
            self.assertEqual(given[-1][4:], [3, 0], change)

    def test_drop_part_and_settle_behind_some_that_were_taken_back(self):
        line = [START, duty(0, 1, 0, 9), mirror(0, 1), union(0, 1)] + duties(3, 10) + [back()] * 2
        for change in (drop(0), part(1, 0), settle()):
            given = answer_all(line + [state(), change, state(), again()])[len(line):]
            self.assertEqual([given[0][4:], given[2][4:], given[3]], [[4, 2], [5, 0], [-2]], change)

    def test_refused_calls_leave_what_can_be_done_again(self):
        for line in (QUIET, QUIET + duties(2) + [back()] * 2):
            for call, number in REFUSED:
                self.assert_refused(line, call, number)
        line = QUIET + duties(2) + [back()] * 2
        given = answer_all(line + [call for call, number in REFUSED] + [again(), laid(0, 1, 0), again(), laid(0, 1, 0)])
        self.assertEqual(given[-4:], [[1], [1], [0], [2]])

    def test_what_is_there_already_and_full_leave_what_can_be_done_again(self):
        pairs = list(itertools.permutations(range(6), 2))[:16]
        line = [start(6, 1)] + [mirror(i, j) for i, j in pairs] + [union(0, 1), duty(5, 4, 0, 1), back()]
        for call, number in ((mirror(0, 1), -17), (favour(0, 1), -28), (follow(0, 1, 2), -28), (union(1, 0), -17)):
            self.assert_refused(line, call, number)

    def test_questions_leave_what_can_be_done_again(self):
        line = [START] + CHANGES + [back()] * 5
        for call in QUESTIONS:
            given = answer_all(line + [call, state(), again(), back(), back(), state()])
            self.assertEqual([given[-5][4:], given[-1][4:]], [[9, 5], [8, 6]], call)
            self.assert_as_it_was(line, call, given[len(line)])


class TheLastTwenty(LineCase):
    def test_twenty_and_more(self):
        for count in (19, 20, 21, 22, 45):
            kept_back = min(count, 20)
            line = [START] + duties(count)
            self.assertEqual(state_of(line), [0, 3, 2, 0, kept_back, 0])
            given = answer_all(line + [back()] * 21 + [laid(0, 1, 0), state()])[len(line):]
            expected = [[left] for left in range(kept_back - 1, -1, -1)]
            self.assertEqual(given[:21], expected + [[-2]] * (21 - kept_back))
            self.assertEqual(given[21:], [[count - kept_back], [0, 3, 2, 0, 0, kept_back]])

    def test_twenty_done_again(self):
        line = [START] + duties(30) + [back()] * 21
        given = answer_all(line + [again()] * 21 + [laid(0, 1, 0), state()])[len(line):]
        self.assertEqual(given, [[left] for left in range(19, -1, -1)] + [[-2], [30], [0, 3, 2, 0, 20, 0]])

    def test_a_change_behind_some_of_twenty_taken_back(self):
        line = [START] + duties(25) + [back()] * 5 + [duty(1, 0, 0, 3)]
        self.assertEqual(state_of(line), [0, 3, 2, 0, 16, 0])
        given = answer_all(line + [back()] * 17 + [laid(0, 1, 0), laid(1, 0, 0)])[len(line):]
        self.assertEqual(given[15:], [[0], [-2], [5], [0]])

    def test_questions_and_refused_calls_are_not_counted(self):
        line = [START]
        for call in duties(20):
            line += [call, duty(0, 0, 0, 0), state(), idle(), settle()]
        given = answer_all(line + [state()] + [back()] * 20 + [laid(0, 1, 0)])
        self.assertEqual(given[len(line)], [0, 3, 2, 0, 20, 0])
        self.assertEqual(given[-2:], [[0], [0]])

    def test_back_and_again_are_no_changes(self):
        line = [START] + duties(20) + [back(), again()] * 25
        self.assertEqual(state_of(line), [0, 3, 2, 0, 20, 0])
        self.assertEqual(answer_all(line + [back()] * 20 + [laid(0, 1, 0)])[-2:], [[0], [0]])


class StartAgain(LineCase):
    def test_not_refused_it_leaves_none(self):
        for line in ([START] + CHANGES, [START] + CHANGES + [back()] * 5, [START] + CHANGES + [back()] * 14):
            given = answer_all(line + [start(4, 1), state(), back(), again(), state()])[len(line):]
            self.assertEqual(given, [[0], [0, 4, 1, 0, 0, 0], [-2], [-2], [0, 4, 1, 0, 0, 0]])

    def test_as_it_was_it_leaves_none_either(self):
        line = [START] + CHANGES + [back()]
        self.assertEqual(answer_all(line + [START, state(), back(), again()])[-3:], [[0, 3, 2, 0, 0, 0], [-2], [-2]])

    def test_refused_it_leaves_all(self):
        line = [START] + CHANGES + [back()] * 5
        for n, m in ((1, 1), (7, 1), (2, 0), (2, 4), (0, 0), (HUGE, HUGE)):
            self.assert_refused(line, start(n, m), -22)
        given = answer_all(line + [start(0, 1), state(), again(), back(), back()])[len(line):]
        self.assertEqual(given, [[-22], [3, 3, 2, 2, 9, 5], [4], [9], [8]])

    def test_changes_behind_it_are_counted_anew(self):
        line = [START] + duties(20) + [start(2, 1)] + duties(3)
        self.assertEqual(answer_all(line + [state()] + [back()] * 4)[len(line):], [
            [0, 2, 1, 0, 3, 0], [2], [1], [0], [-2]])


if __name__ == "__main__":
    unittest.main()
