"""Point 3: mf_falls, mf_kept, mf_settle, mf_alike."""

import itertools
import unittest

from lines import (HUGE, LineCase, alike, answer_all, back, drop, duty, falls, favour, follow, kept, laid, lay_all,
                   mirror, row, settle, start, state, takes, union)

# Of both goods one duty falls, by 30 and by 4.
TWO_FALL = [start(3, 2), duty(0, 1, 0, 50), duty(1, 0, 0, 20), duty(0, 1, 1, 9), duty(1, 0, 1, 5), mirror(0, 1)]


class Falls(LineCase):
    def test_nothing_falls_where_all_is_new(self):
        for n, m in itertools.product(range(2, 7), range(1, 4)):
            self.assert_answers([(start(n, m), [0]), (falls(), [0, 0]), (kept(), [1]), (settle(), [-17])])

    def test_nothing_falls_without_clauses(self):
        line = [start(3, 1)] + lay_all(3, 0, 100) + [duty(0, 1, 0, 3)]
        self.assertEqual(answer_all(line + [falls(), kept()])[-2:], [[0, 0], [1]])

    def test_nothing_falls_where_the_clauses_are_kept_just_so(self):
        line = [start(3, 1)] + lay_all(3, 0, 40) + [favour(0, 1), mirror(0, 1), follow(0, 1, 2)]
        self.assertEqual(answer_all(line + [falls(), kept(), settle()])[-3:], [[0, 0], [1], [-17]])
        line.append(duty(0, 1, 0, 39))
        self.assertEqual(answer_all(line + [falls(), kept(), settle()])[-3:], [[0, 0], [1], [-17]])

    def test_one_falls(self):
        line = [start(3, 1)] + lay_all(3, 0, 40) + [favour(0, 1), mirror(0, 1), follow(0, 1, 2), duty(0, 1, 0, 41)]
        self.assertEqual(answer_all(line + [falls(), kept()])[-2:], [[1, 1], [0]])
        self.assertEqual(answer_all(line + [settle(), laid(0, 1, 0), falls(), kept()])[-4:], [[1], [40], [0, 0], [1]])

    def test_one_falls_from_the_highest_to_nothing(self):
        self.assert_answers([
            (start(2, 1), [0]), (mirror(1, 0), [0]), (duty(1, 0, 0, 100), [0]),
            (falls(), [1, 100]), (kept(), [0]), (laid(1, 0, 0), [100]), (settle(), [1]), (laid(1, 0, 0), [0]),
        ])

    def test_a_chain_falls(self):
        line = [start(4, 1)] + lay_all(4, 0, 100) + [follow(0, 3, 1), follow(1, 3, 2), duty(2, 3, 0, 90)]
        self.assertEqual(answer_all(line + [falls(), kept()])[-2:], [[2, 20], [0]])
        # Laid down below the next one, (1,3), it falls all the same, with that, to the one behind.
        line.append(duty(0, 3, 0, 95))
        self.assertEqual(answer_all(line + [falls(), kept()])[-2:], [[2, 15], [0]])

    def test_many_fall_over_several_goods(self):
        line = [start(6, 3)] + [favour(0, j) for j in range(1, 6)]
        for g in range(3):
            line += lay_all(6, g, 100 - g) + [duty(0, 4, g, 10 * g)]
        expected = [12, 4 * (100 + 89 + 78)]
        self.assertEqual(answer_all(line + [falls(), kept()])[-2:], [expected, [0]])
        given = answer_all(line + [settle()] + [row(0, g) for g in range(3)] + [laid(0, 1, 1), laid(1, 0, 1)])
        self.assertEqual(given[-6:], [
            [12], [0] * 7, [50, 0, 10, 10, 10, 10, 10], [100, 0, 20, 20, 20, 20, 20], [10], [99]])

    def test_a_clause_broken_on_the_last_good_alone(self):
        line = [start(3, 3)] + lay_all(3, 0, 5) + lay_all(3, 1, 6) + lay_all(3, 2, 7) + [follow(2, 1, 0)]
        self.assertEqual(answer_all(line + [kept(), falls()])[-2:], [[1], [0, 0]])
        for g in range(3):
            self.assertEqual(answer_all(line + [duty(2, 1, g, 8), kept(), falls()])[-2:], [[0], [1, 3 - g]])

    def test_a_union_lets_a_favour_be_kept(self):
        line = [start(3, 1)] + lay_all(3, 0, 50) + [favour(0, 1), duty(0, 2, 0, 10)]
        self.assertEqual(answer_all(line + [kept(), falls()])[-2:], [[0], [1, 40]])
        self.assertEqual(answer_all(line + [union(2, 0), kept(), falls()])[-2:], [[1], [0, 0]])

    def test_asking_changes_nothing(self):
        self.assert_as_it_was(TWO_FALL, falls(), [2, 34])
        self.assert_as_it_was(TWO_FALL, kept(), [0])
        self.assert_as_it_was(TWO_FALL + [back()], kept(), [1])
        self.assert_as_it_was(TWO_FALL + [back()], falls(), [0, 0])


class Settle(LineCase):
    def test_lays_down_what_is_taken(self):
        given = answer_all(TWO_FALL + [settle(), laid(0, 1, 0), laid(0, 1, 1), laid(1, 0, 0), laid(1, 0, 1),
                                       takes(0, 1, 0), falls(), kept(), state()])
        self.assertEqual(given[len(TWO_FALL):], [
            [2], [20], [5], [20], [5], [20], [0, 0], [1], [1, 3, 2, 0, 6, 0]])

    def test_the_second_time_is_refused(self):
        self.assert_refused(TWO_FALL + [settle()], settle(), -17)

    def test_refused_where_nothing_falls(self):
        self.assert_refused([start(2, 1)], settle(), -17)
        self.assert_refused(TWO_FALL + [drop(0)], settle(), -17)
        self.assert_refused(TWO_FALL + [back()], settle(), -17)

    def test_settled_it_stays_low_without_the_clause(self):
        given = answer_all(TWO_FALL + [settle(), drop(0), takes(0, 1, 0), takes(0, 1, 1)])
        self.assertEqual(given[-2:], [[20], [5]])

    def test_settled_again_behind_another_duty(self):
        given = answer_all(TWO_FALL + [settle(), duty(1, 0, 1, 3), falls(), settle(), laid(0, 1, 1), settle()])
        self.assertEqual(given[-4:], [[1, 2], [1], [3], [-17]])

    def test_settled_what_is_in_a_ring(self):
        ring = [follow(0, 3, 1), follow(1, 3, 2), follow(2, 3, 0)]
        line = [start(4, 1)] + lay_all(4, 0, 100) + ring + [duty(1, 3, 0, 13)]
        given = answer_all(line + [falls(), settle(), laid(0, 3, 0), laid(1, 3, 0), laid(2, 3, 0), kept(), settle()])
        self.assertEqual(given[-7:], [[2, 174], [2], [13], [13], [13], [1], [-17]])


class Alike(LineCase):
    def test_of_two_states_always(self):
        self.assert_answers([
            (start(2, 2), [0]), (alike(0, 0), [1]), (alike(1, 1), [1]),
            (duty(0, 1, 0, 100), [0]), (alike(0, 0), [1]), (alike(1, 0), [1]), (alike(0, 1), [1]),
        ])

    def test_of_three_states(self):
        self.assert_answers([
            (start(3, 2), [0]), (alike(0, 0), [1]), (alike(1, 0), [1]), (alike(2, 1), [1]),
            (duty(1, 0, 0, 7), [0]), (alike(0, 0), [1]), (alike(1, 0), [0]), (alike(2, 0), [1]), (alike(1, 1), [1]),
            (duty(1, 2, 0, 8), [0]), (alike(1, 0), [0]), (duty(1, 2, 0, 7), [8]), (alike(1, 0), [1]),
        ])

    def test_of_six_states_each_counts(self):
        line = [start(6, 1)] + lay_all(6, 0, 30)
        for i, j in itertools.permutations(range(6), 2):
            given = answer_all(line + [duty(i, j, 0, 31)] + [alike(a, 0) for a in range(6)])
            self.assertEqual(given[-6:], [[0] if a == i else [1] for a in range(6)], (i, j))

    def test_it_is_of_what_is_taken(self):
        self.assert_answers([
            (start(3, 1), [0]), (duty(0, 1, 0, 50), [0]), (duty(0, 2, 0, 20), [0]), (alike(0, 0), [0]),
            (favour(0, 1), [0]), (alike(0, 0), [1]), (drop(0), [0]), (alike(0, 0), [0]),
            (duty(0, 2, 0, 50), [20]), (alike(0, 0), [1]), (mirror(0, 1), [0]), (alike(0, 0), [0]),
        ])

    def test_refused(self):
        for i, g in ((3, 0), (0, 2), (3, 2), (HUGE, 0), (0, HUGE), (HUGE, HUGE)):
            self.assert_refused(TWO_FALL, alike(i, g), -2)
            self.assert_refused(TWO_FALL + [back()], alike(i, g), -2)

    def test_asking_changes_nothing(self):
        self.assert_as_it_was(TWO_FALL, alike(0, 0), [0])
        self.assert_as_it_was(TWO_FALL + [back()], alike(2, 1), [1])


if __name__ == "__main__":
    unittest.main()
