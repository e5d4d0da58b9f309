"""The interface: how calls are handed in and answers given back."""

import itertools
import random
import time
import unittest

from lines import (HUGE, LineCase, again, alike, answer_all, back, duty, falls, favour, follow, idle, kept, mirror,
                   moves, row, settle, start, state, takes, why, would)
from mostfavoured.duties import answers
from reckoning import Reckoning


class Untouchable(list):
    """A list that any change, even one for a while, breaks off."""

    def refuse(self, *args, **kwargs):
        raise AssertionError("the list that was handed in is changed")

    append = clear = extend = insert = pop = remove = reverse = sort = refuse
    __setitem__ = __delitem__ = __iadd__ = __imul__ = refuse


LINE = [
    0, 3, 2,
    1, 0, 1, 0, 40,
    1, 0, 2, 1, 7,
    2, 0, 1,
    3, 1, 0,
    4, 2, 0, 1,
    6, 2,
    7, 1, 2,
    8, 2, 1,
    9, 0, 1, 0,
    10, 0, 1, 0,
    11, 0, 1,
    5, 0,
    9, 0, 0, 0,
    12,
    13, 1, 0, 0, 30,
    14, 0, 1, 0,
    15, 1, 0, 0,
    16,
    1, 1, 0, 0, 90,
    17,
    18, 0, 0,
    19,
    20,
    21,
    22,
]

# For each call how many numbers it answers if it isn't refused.
ANSWERED = {0: 1, 1: 1, 2: 1, 3: 1, 4: 1, 5: 1, 6: 4, 7: 1, 8: 1, 9: 1, 10: 1, 11: 7, 12: 2, 13: 2, 14: 3, 15: 1,
            16: 1, 17: 1, 18: 1, 19: 17, 20: 1, 21: 1, 22: 6}


class Form(LineCase):
    def test_each_answer_has_its_count_before_it(self):
        self.assertEqual(answers(LINE), [
            1, 0,
            1, 0,
            1, 0,
            1, 0,
            1, 1,
            1, 2,
            4, 3, 2, 0, 1,
            1, 1,
            1, 0,
            1, 40,
            1, 0,
            7, 7, 0, 0, 7, 0, 0, 0,
            1, 2,
            1, -22,
            2, 0, 0,
            2, 1, 30,
            3, 0, 0, 1,
            1, 2,
            1, 1,
            1, 0,
            1, 1,
            1, 0,
            17, 2, 1, 1, 0, 0, 0, 0, 0, 0, 0, 0, 0, 0, 0, 0, 0, 0,
            1, 9,
            1, 0,
            6, 2, 3, 2, 0, 10, 0,
        ])

    def test_how_many_numbers_each_call_answers(self):
        given = {}
        at, line = 0, answers(LINE)
        for number in (0, 1, 1, 2, 3, 4, 6, 7, 8, 9, 10, 11, 5, 9, 12, 13, 14, 15, 16, 1, 17, 18, 19, 20, 21, 22):
            if line[at + 1] >= 0:
                given[number] = line[at]
            at += 1 + line[at]
        self.assertEqual(at, len(line))
        self.assertEqual(given, ANSWERED)

    def test_a_refusal_is_its_number_alone(self):
        self.assertEqual(answers([0, 2, 1, 6, 0, 11, 2, 0]), [1, 0, 1, -2, 1, -2])
        self.assertEqual(answers([0, 2, 1, 13, 0, 0, 0, 0, 14, 2, 0, 0, 15, 1, 1, 0, 17, 18, 2, 0, 20, 21]),
                         [1, 0, 1, -22, 1, -2, 1, -22, 1, -17, 1, -2, 1, -2, 1, -2])

    def test_what_is_handed_in_is_as_it_was(self):
        line = list(LINE)
        answers(line)
        self.assertEqual(line, LINE)

    def test_what_is_handed_in_is_not_changed_for_a_while_either(self):
        self.assertEqual(answers(Untouchable(LINE)), answers(LINE))

    def test_nothing_is_kept_from_one_time_to_the_next(self):
        first = answers(LINE)
        answers([0, 6, 3, 2, 0, 1, 7, 0, 1])
        self.assertEqual(answers(LINE), first)

    def test_what_was_given_back_is_not_used_again(self):
        first = answers(LINE)
        kept_apart = list(first)
        first.clear()
        self.assertEqual(answers(LINE), kept_apart)

    def test_one_call_is_a_line(self):
        self.assertEqual(answers([0, 6, 3]), [1, 0])
        self.assertEqual(answers([0, HUGE, 0]), [1, -22])

    def test_a_line_of_a_thousand_calls(self):
        calls = [start(6, 3)] + [duty(5, 4, 2, x % 101) for x in range(998)] + [takes(5, 4, 2)]
        given = answer_all(calls)
        self.assertEqual(given[0], [0])
        self.assert_same(given[1:-1], [[0]] + [[x % 101] for x in range(997)])
        self.assertEqual(given[-1], [997 % 101])

    def test_a_thousand_rows_of_sixteen_clauses(self):
        calls = [start(6, 3)] + [favour(i, j) for i in range(6) for j in range(6) if i != j][:17]
        calls += [duty(i, j, 2, 100) for i in range(6) for j in range(6) if i != j]
        calls += [row(0, 2)] * (1000 - len(calls))
        self.assertEqual(answer_all(calls)[-1], [500, 0, 100, 100, 100, 100, 100])


class Long(LineCase):
    """Lines of 1000 calls with 6 states, 3 goods and 16 clauses, of the calls that reckon most."""

    pairs = list(itertools.permutations(range(6), 2))

    def lines(self):
        source = random.Random(1000)
        favours = [favour(i, j) for i, j in self.pairs]
        mirrors = [mirror(i, j) for i, j in self.pairs]
        follows = [follow(i, j, k) for i, j, k in itertools.permutations(range(6), 3)]
        for highest in (0, 100):
            for clauses in (favours[:16], source.sample(favours, 6) + source.sample(mirrors, 5)
                            + source.sample(follows, 5), source.sample(mirrors + follows, 16)):
                yield [start(6, 3)] + clauses + [duty(i, j, g, source.randint(0, highest))
                                                 for g in range(3) for i, j in self.pairs]

    def assert_in_seconds(self, line, most_seconds=10):
        self.assertEqual(len(line), 1000)
        self.assertLessEqual(sum(len(call) for call in line), 5000)
        begun = time.process_time()
        given = answer_all(line)
        self.assertLess(time.process_time() - begun, most_seconds)
        return given

    def test_the_same_question_over_and_over(self):
        for line in self.lines():
            for call in (idle(), moves(0, 1, 2), would(0, 1, 0, 50), falls(), why(0, 1, 1), kept(), alike(0, 0)):
                given = self.assert_in_seconds(line + [call] * (1000 - len(line)))
                plain = Reckoning()
                expected = [plain.answer(one) for one in line + [call]]
                self.assert_same(given, expected + [expected[-1]] * (999 - len(line)), call)

    def test_changes_and_questions_in_turn(self):
        for line in self.lines():
            turn = itertools.cycle([duty(0, 1, 0, 100), settle(), idle(), back(), moves(0, 1, 0), again(), falls(),
                                    back(), back(), state(), would(0, 1, 2, 0)])
            self.assert_in_seconds(line + list(itertools.islice(turn, 1000 - len(line))))


if __name__ == "__main__":
    unittest.main()
