"""Point 3: mf_laid, mf_takes, mf_row, and what is refused of them."""

import unittest

from lines import HUGE, LineCase, duty, favour, laid, mirror, row, start, takes, union

SMALL = [start(3, 2), duty(0, 1, 0, 50), duty(0, 2, 0, 20), duty(1, 0, 1, 100), favour(0, 1), mirror(1, 0),
         union(1, 2)]


class Questions(LineCase):
    def test_laid_and_taken(self):
        self.assert_answers([
            (start(3, 2), [0]),
            (duty(0, 1, 0, 50), [0]), (duty(0, 2, 0, 20), [0]), (duty(0, 1, 1, 100), [0]),
            (laid(0, 1, 0), [50]), (takes(0, 1, 0), [50]), (row(0, 0), [70, 0, 50, 20, 0, 0, 0]),
            (favour(0, 1), [0]),
            (laid(0, 1, 0), [50]), (takes(0, 1, 0), [20]), (takes(0, 2, 0), [20]), (takes(0, 1, 1), [0]),
            (row(0, 0), [40, 0, 20, 20, 0, 0, 0]), (row(0, 1), [0] * 7), (row(1, 0), [0] * 7),
        ])

    def test_rows_of_two_and_of_six_states(self):
        self.assert_answers([
            (start(2, 1), [0]), (duty(1, 0, 0, 100), [0]), (row(1, 0), [100, 100, 0, 0, 0, 0, 0]),
            (row(0, 0), [0] * 7),
            (start(6, 3), [0]), (duty(5, 0, 2, 100), [0]), (duty(5, 1, 2, 1), [0]), (duty(5, 2, 2, 2), [0]),
            (duty(5, 3, 2, 3), [0]), (duty(5, 4, 2, 4), [0]), (duty(2, 5, 2, 9), [0]),
            (row(5, 2), [110, 100, 1, 2, 3, 4, 0]), (row(2, 2), [9, 0, 0, 0, 0, 0, 9]), (row(5, 1), [0] * 7),
        ])

    def test_refused_of_what_is_not_there(self):
        for ask in (laid, takes):
            for i, j, g in ((3, 0, 0), (0, 3, 0), (0, 1, 2), (HUGE, 0, 0), (0, HUGE, 0), (0, 1, HUGE), (3, 3, 0),
                            (1, 1, 2), (HUGE, HUGE, HUGE)):
                self.assert_refused(SMALL, ask(i, j, g), -2)
        for i, g in ((3, 0), (0, 2), (3, 2), (HUGE, 0), (0, HUGE), (HUGE, HUGE)):
            self.assert_refused(SMALL, row(i, g), -2)

    def test_refused_of_two(self):
        for ask in (laid, takes):
            for i in range(3):
                for g in range(2):
                    self.assert_refused(SMALL, ask(i, i, g), -22)


if __name__ == "__main__":
    unittest.main()
