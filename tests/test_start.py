"""Point 1: mf_start, first and again."""

import unittest

from lines import (HUGE, LineCase, answer_all, answer_last, ask_everything, ask_history, back, clause, duty, favour,
                   follow, laid, mirror, part, row, start, union)

# A line in which something is kept of every sort, of 4 states and 2 goods.
FULL_LIFE = [
    start(4, 2), duty(0, 1, 0, 30), duty(2, 1, 1, 9), duty(3, 0, 1, 100), favour(0, 1), mirror(2, 1),
    follow(3, 0, 2), union(1, 3), union(2, 0),
]


class Start(LineCase):
    def test_the_edges(self):
        for n in (0, 1, 2, 3, 4, 5, 6, 7, 8, HUGE):
            for m in (0, 1, 2, 3, 4, 5, HUGE):
                fits = n in (2, 3, 4, 5, 6) and m in (1, 2, 3)
                self.assertEqual(answer_last(start(n, m)), [0] if fits else [-22], (n, m))

    def test_all_is_new(self):
        for n in range(2, 7):
            for m in range(1, 4):
                pairs = n * (n - 1)
                given = answer_all([start(n, m)] + ask_everything(n, m))
                expected = [[0]] + [[0]] * (pairs * m) + [[0] * 7] * (n * m) + [[-2]] * 17
                expected += [[0], [-2], [0], [-2]] + [[1 + u] for u in range(pairs // 2)]
                self.assertEqual(given, expected, (n, m))

    def test_refused_ones_ahead_of_the_first(self):
        self.assertEqual(
            answer_all([start(1, 1), start(7, 3), start(2, 0), start(6, 4), start(2, 1), laid(1, 0, 0), row(2, 0)]),
            [[-22], [-22], [-22], [-22], [0], [0], [-2]])

    def test_refused_again_all_stays_as_it_was(self):
        for n, m in ((1, 2), (7, 2), (4, 0), (4, 4), (0, 0), (HUGE, 2), (4, HUGE), (HUGE, HUGE)):
            self.assert_refused(FULL_LIFE, start(n, m), -22)
            self.assert_refused(FULL_LIFE + [back(), back()], start(n, m), -22)

    def test_again_all_is_new(self):
        for n, m in ((4, 2), (2, 1), (6, 3)):
            for ask in (ask_everything, ask_history):
                fresh = [start(n, m)] + ask(n, m)
                for life in (FULL_LIFE, FULL_LIFE + [back(), back()]):
                    self.assert_same(answer_all(life + fresh)[len(life):], answer_all(fresh), (n, m))

    def test_again_clauses_and_unions_are_counted_anew(self):
        again = FULL_LIFE + [start(4, 2)]
        self.assertEqual(answer_all(again + [favour(0, 1), clause(0), clause(1)])[-3:], [[0], [1, 0, 1, 0], [-2]])
        self.assertEqual(answer_all(again + [part(1, 3), union(1, 3), part(3, 1)])[-3:], [[-6], [1], [0]])


if __name__ == "__main__":
    unittest.main()
