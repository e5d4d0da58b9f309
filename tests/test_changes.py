"""Point 2: duties, clauses and unions, and what is refused of them."""

import itertools
import unittest

from lines import (HUGE, LineCase, answer_all, clause, drop, duty, favour, follow, laid, mirror, part, start,
                   takes, union)

# Three states, two goods, one clause of each kind, one union.
SMALL = [start(3, 2), duty(0, 1, 0, 50), duty(0, 2, 0, 20), duty(1, 0, 1, 100), favour(0, 1), mirror(1, 0),
         follow(2, 0, 1), union(1, 2)]
SIXTEEN = [favour(i, j) for i, j in itertools.permutations(range(6), 2)][:16]
FULL = [start(6, 1), duty(5, 0, 0, 77)] + SIXTEEN


class Duty(LineCase):
    def test_answers_what_it_was(self):
        self.assert_answers([
            (start(3, 2), [0]),
            (duty(0, 1, 0, 100), [0]),
            (duty(0, 1, 0, 0), [100]),
            (duty(0, 1, 0, 7), [0]),
            (duty(0, 1, 0, 7), [7]),
            (duty(1, 0, 0, 8), [0]),
            (duty(0, 1, 1, 9), [0]),
            (duty(2, 1, 1, 10), [0]),
            (laid(0, 1, 0), [7]), (laid(1, 0, 0), [8]), (laid(0, 1, 1), [9]), (laid(2, 1, 1), [10]),
            (laid(0, 2, 0), [0]), (laid(2, 0, 0), [0]), (laid(2, 1, 0), [0]), (laid(1, 0, 1), [0]),
        ])

    def test_what_it_was_is_what_was_laid_down_not_what_is_taken(self):
        self.assert_answers([
            (start(2, 1), [0]), (mirror(0, 1), [0]), (duty(0, 1, 0, 60), [0]), (takes(0, 1, 0), [0]),
            (duty(0, 1, 0, 61), [60]),
        ])

    def test_refused(self):
        for i, j, g, x in ((3, 0, 0, 1), (0, 3, 0, 1), (0, 1, 2, 1), (HUGE, 0, 0, 1), (0, HUGE, 0, 1), (0, 1, HUGE, 1),
                           (HUGE, HUGE, HUGE, HUGE)):
            self.assert_refused(SMALL, duty(i, j, g, x), -2)
        for i, j, g, x in ((0, 0, 0, 1), (2, 2, 1, 0), (0, 1, 0, 101), (1, 2, 1, HUGE), (1, 1, 1, 101)):
            self.assert_refused(SMALL, duty(i, j, g, x), -22)

    def test_none_there_is_told_first(self):
        for i, j, g, x in ((3, 3, 0, 1), (1, 1, 2, 1), (0, 3, 0, 101), (3, 0, 0, 101), (0, 1, 2, HUGE), (0, 0, 2, 101)):
            self.assert_refused(SMALL, duty(i, j, g, x), -2)


class Clauses(LineCase):
    def test_numbered_one_behind_another(self):
        self.assert_answers([
            (start(4, 1), [0]),
            (favour(0, 1), [0]), (mirror(0, 1), [1]), (follow(0, 1, 2), [2]), (follow(3, 2, 0), [3]),
            (mirror(1, 0), [4]), (favour(1, 0), [5]), (follow(0, 1, 3), [6]), (follow(0, 2, 1), [7]),
            (clause(0), [1, 0, 1, 0]), (clause(1), [2, 0, 1, 0]), (clause(2), [3, 0, 1, 2]),
            (clause(3), [3, 3, 2, 0]), (clause(4), [2, 1, 0, 0]), (clause(5), [1, 1, 0, 0]),
            (clause(6), [3, 0, 1, 3]), (clause(7), [3, 0, 2, 1]), (clause(8), [-2]), (clause(HUGE), [-2]),
        ])

    def test_refused_of_states_that_are_not_there(self):
        for i, j in ((3, 0), (0, 3), (3, 3), (HUGE, 1), (1, HUGE), (HUGE, HUGE)):
            self.assert_refused(SMALL, favour(i, j), -2)
            self.assert_refused(SMALL, mirror(i, j), -2)
        for i, j, k in ((3, 0, 1), (0, 3, 1), (0, 1, 3), (3, 3, 0), (0, 0, 3), (3, 0, 0), (0, 3, 0), (HUGE, 1, 2),
                        (1, HUGE, 2), (1, 2, HUGE), (3, 3, 3)):
            self.assert_refused(SMALL, follow(i, j, k), -2)

    def test_refused_of_the_same_states(self):
        for i in range(3):
            self.assert_refused(SMALL, favour(i, i), -22)
            self.assert_refused(SMALL, mirror(i, i), -22)
            self.assert_refused(SMALL, follow(i, i, i), -22)
        for i, j, k in ((0, 0, 1), (0, 1, 0), (1, 0, 0), (2, 2, 0), (2, 1, 2), (0, 2, 2)):
            self.assert_refused(SMALL, follow(i, j, k), -22)

    def test_refused_of_two_states_is_every_follow(self):
        two = [start(2, 1)]
        for i, j, k in itertools.product(range(2), repeat=3):
            self.assert_refused(two, follow(i, j, k), -22)
        self.assert_refused(two, follow(0, 1, 2), -2)

    def test_there_already(self):
        self.assert_refused(SMALL, favour(0, 1), -17)
        self.assert_refused(SMALL, mirror(1, 0), -17)
        self.assert_refused(SMALL, follow(2, 0, 1), -17)

    def test_the_sixteenth_and_the_seventeenth(self):
        self.assertEqual(answer_all(FULL)[2:], [[c] for c in range(16)])
        self.assert_refused(FULL, favour(5, 0), -28)
        self.assert_refused(FULL, mirror(0, 1), -28)
        self.assert_refused(FULL, follow(0, 1, 2), -28)
        self.assert_answers(list(zip(FULL[:1], [[0]])) + [
            (call, [c]) for c, call in enumerate(SIXTEEN)
        ] + [(mirror(0, 1), [-28]), (drop(3), [15]), (mirror(0, 1), [15]), (clause(15), [2, 0, 1, 0])])

    def test_what_is_told_ahead_of_full(self):
        self.assert_refused(FULL, SIXTEEN[0], -17)
        self.assert_refused(FULL, SIXTEEN[15], -17)
        self.assert_refused(FULL, favour(6, 6), -2)
        self.assert_refused(FULL, mirror(0, 6), -2)
        self.assert_refused(FULL, follow(0, 0, 6), -2)
        self.assert_refused(FULL, favour(4, 4), -22)
        self.assert_refused(FULL, mirror(5, 5), -22)
        self.assert_refused(FULL, follow(5, 4, 5), -22)

    def test_sixteen_with_mirrors_and_follows_last(self):
        for last in (mirror(0, 1), follow(0, 1, 2)):
            line = [start(6, 1)] + SIXTEEN[:15] + [last]
            self.assertEqual(answer_all(line)[-1], [15])
            self.assert_refused(line, last, -17)


class Drop(LineCase):
    def test_those_behind_are_numbered_one_less(self):
        self.assert_answers([
            (start(4, 1), [0]),
            (favour(0, 1), [0]), (mirror(1, 2), [1]), (follow(2, 3, 0), [2]), (favour(3, 0), [3]),
            (drop(1), [3]),
            (clause(0), [1, 0, 1, 0]), (clause(1), [3, 2, 3, 0]), (clause(2), [1, 3, 0, 0]), (clause(3), [-2]),
            (drop(2), [2]),
            (clause(0), [1, 0, 1, 0]), (clause(1), [3, 2, 3, 0]), (clause(2), [-2]),
            (drop(0), [1]),
            (clause(0), [3, 2, 3, 0]), (clause(1), [-2]),
            (drop(0), [0]),
            (clause(0), [-2]), (drop(0), [-2]),
            (mirror(1, 2), [0]), (clause(0), [2, 1, 2, 0]),
        ])

    def test_a_dropped_one_can_be_made_again_behind_the_others(self):
        self.assert_answers([
            (start(3, 1), [0]), (favour(0, 1), [0]), (favour(0, 2), [1]), (favour(0, 1), [-17]), (drop(0), [1]),
            (favour(0, 1), [1]), (clause(0), [1, 0, 2, 0]), (clause(1), [1, 0, 1, 0]),
        ])

    def test_a_dropped_one_binds_no_more(self):
        self.assert_answers([
            (start(2, 1), [0]), (duty(0, 1, 0, 9), [0]), (mirror(0, 1), [0]), (takes(0, 1, 0), [0]), (drop(0), [0]),
            (takes(0, 1, 0), [9]),
        ])

    def test_refused(self):
        for c in (3, 4, 16, HUGE):
            self.assert_refused(SMALL, drop(c), -2)
            self.assert_refused(SMALL, clause(c), -2)
        self.assert_refused(FULL, drop(16), -2)
        self.assert_refused([start(2, 1)], drop(0), -2)


class Unions(LineCase):
    def test_made_and_parted_in_either_order(self):
        self.assert_answers([
            (start(4, 1), [0]),
            (union(0, 1), [1]), (union(3, 2), [2]), (union(1, 0), [-17]), (union(2, 3), [-17]), (union(0, 1), [-17]),
            (union(3, 2), [-17]), (union(0, 2), [3]),
            (part(1, 0), [2]), (part(0, 1), [-6]), (part(1, 0), [-6]),
            (part(3, 2), [1]), (part(2, 3), [-6]), (part(3, 2), [-6]),
            (union(1, 0), [2]), (part(1, 0), [1]), (union(2, 0), [-17]), (part(0, 2), [0]),
        ])

    def test_the_union_of_a_third_with_both_is_none_of_the_two(self):
        self.assert_answers([
            (start(3, 1), [0]), (union(0, 1), [1]), (union(1, 2), [2]), (part(0, 2), [-6]), (union(0, 2), [3]),
        ])

    def test_all_fifteen(self):
        pairs = list(itertools.combinations(range(6), 2))
        given = answer_all([start(6, 1)] + [union(j, i) for i, j in pairs] + [part(i, j) for i, j in pairs])
        self.assertEqual(given[1:], [[u] for u in range(1, 16)] + [[u] for u in range(14, -1, -1)])

    def test_union_refused(self):
        for i, j in ((3, 0), (0, 3), (3, 3), (HUGE, 0), (0, HUGE), (HUGE, HUGE)):
            self.assert_refused(SMALL, union(i, j), -2)
        for i in range(3):
            self.assert_refused(SMALL, union(i, i), -22)
        self.assert_refused(SMALL, union(1, 2), -17)
        self.assert_refused(SMALL, union(2, 1), -17)

    def test_part_refused(self):
        for i, j in ((3, 0), (0, 3), (3, 3), (HUGE, 0), (0, HUGE), (HUGE, HUGE)):
            self.assert_refused(SMALL, part(i, j), -2)
        for i, j in ((0, 1), (1, 0), (0, 2), (2, 0), (0, 0), (1, 1), (2, 2)):
            self.assert_refused(SMALL, part(i, j), -6)


if __name__ == "__main__":
    unittest.main()
