"""The interface: how calls are handed in and answers given back."""

import unittest

from lines import HUGE, answer_all, duty, favour, row, start, takes
from mostfavoured.duties import answers


class Untouchable(list):
    """A list that any change, even one for a while, breaks off."""

    def refuse(self, *args, **kwargs):
        raise AssertionError("the list that was handed in is changed")

    append = clear = extend = insert = pop = remove = reverse = sort = refuse
    __setitem__ = __delitem__ = __iadd__ = __imul__ = refuse


LINE = [
    0, 3, 2,
    1, 0, 1, 0, 40,
    1, 0, 2, 1, 7,
    2, 0, 1,
    3, 1, 0,
    4, 2, 0, 1,
    6, 2,
    7, 1, 2,
    8, 2, 1,
    9, 0, 1, 0,
    10, 0, 1, 0,
    11, 0, 1,
    5, 0,
    9, 0, 0, 0,
]


class Form(unittest.TestCase):
    def test_each_answer_has_its_count_before_it(self):
        self.assertEqual(answers(LINE), [
            1, 0,
            1, 0,
            1, 0,
            1, 0,
            1, 1,
            1, 2,
            4, 3, 2, 0, 1,
            1, 1,
            1, 0,
            1, 40,
            1, 0,
            7, 7, 0, 0, 7, 0, 0, 0,
            1, 2,
            1, -22,
        ])

    def test_a_refusal_is_its_number_alone(self):
        self.assertEqual(answers([0, 2, 1, 6, 0, 11, 2, 0]), [1, 0, 1, -2, 1, -2])

    def test_what_is_handed_in_is_as_it_was(self):
        line = list(LINE)
        answers(line)
        self.assertEqual(line, LINE)

    def test_what_is_handed_in_is_not_changed_for_a_while_either(self):
        self.assertEqual(answers(Untouchable(LINE)), answers(LINE))

    def test_nothing_is_kept_from_one_time_to_the_next(self):
        first = answers(LINE)
        answers([0, 6, 3, 2, 0, 1, 7, 0, 1])
        self.assertEqual(answers(LINE), first)

    def test_what_was_given_back_is_not_used_again(self):
        answers(LINE).clear()
        self.assertEqual(len(answers(LINE)), 37)

    def test_one_call_is_a_line(self):
        self.assertEqual(answers([0, 6, 3]), [1, 0])
        self.assertEqual(answers([0, HUGE, 0]), [1, -22])

    def test_a_line_of_a_thousand_calls(self):
        calls = [start(6, 3)] + [duty(5, 4, 2, x % 101) for x in range(998)] + [takes(5, 4, 2)]
        given = answer_all(calls)
        self.assertEqual(given[0], [0])
        self.assertEqual(given[1:-1], [[0]] + [[x % 101] for x in range(997)])
        self.assertEqual(given[-1], [997 % 101])

    def test_a_thousand_rows_of_sixteen_clauses(self):
        calls = [start(6, 3)] + [favour(i, j) for i in range(6) for j in range(6) if i != j][:17]
        calls += [duty(i, j, 2, 100) for i in range(6) for j in range(6) if i != j]
        calls += [row(0, 2)] * (1000 - len(calls))
        self.assertEqual(answer_all(calls)[-1], [500, 0, 100, 100, 100, 100, 100])


if __name__ == "__main__":
    unittest.main()
