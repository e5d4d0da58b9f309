"""What the tests share: the calls as they are handed in, and the answers taken apart."""

import itertools
import unittest

from mostfavoured.duties import answers

HUGE = 4294967295


def start(n, m):
    return [0, n, m]


def duty(i, j, g, x):
    return [1, i, j, g, x]


def favour(i, j):
    return [2, i, j]


def mirror(i, j):
    return [3, i, j]


def follow(i, j, k):
    return [4, i, j, k]


def drop(c):
    return [5, c]


def clause(c):
    return [6, c]


def union(i, j):
    return [7, i, j]


def part(i, j):
    return [8, i, j]


def laid(i, j, g):
    return [9, i, j, g]


def takes(i, j, g):
    return [10, i, j, g]


def row(i, g):
    return [11, i, g]


def falls():
    return [12]


def would(i, j, g, x):
    return [13, i, j, g, x]


def why(i, j, g):
    return [14, i, j, g]


def moves(i, j, g):
    return [15, i, j, g]


def kept():
    return [16]


def settle():
    return [17]


def alike(i, g):
    return [18, i, g]


def idle():
    return [19]


def back():
    return [20]


def again():
    return [21]


def state():
    return [22]


def lay_all(n, g, x):
    return [duty(i, j, g, x) for i, j in itertools.permutations(range(n), 2)]


def answer_all(calls):
    """One list of answered numbers for each call; fails if what is given back has another form."""
    given = answers([number for call in calls for number in call])
    if type(given) is not list or any(type(number) is not int for number in given):
        raise AssertionError("not a list of whole numbers")
    taken_apart = []
    at = 0
    while at < len(given):
        behind = at + 1 + given[at]
        taken_apart.append(given[at + 1:behind])
        at = behind
    if at != len(given) or len(taken_apart) != len(calls):
        raise AssertionError("the counts do not fit the calls")
    return taken_apart


def answer_last(*calls):
    return answer_all(calls)[-1]


def ask_everything(n, m):
    """Calls that bring to light all that is kept of n states and m goods; they make unions, so they come last."""
    calls = [laid(i, j, g) for g in range(m) for i, j in itertools.permutations(range(n), 2)]
    calls += [row(i, g) for g in range(m) for i in range(n)]
    calls += [clause(c) for c in range(17)]
    calls += [laid(n - 1, 0, 0), laid(n, 0, 0), laid(0, 1, m - 1), laid(0, 1, m)]
    calls += [union(i, j) for i, j in itertools.combinations(range(n), 2)]
    return calls


def ask_history(n, m):
    """Calls that bring to light all that can be taken back and done again; they come last, too."""
    look = [state(), falls()] + [row(i, m - 1) for i in range(n)]
    calls = list(look)
    for step in [again()] * 21 + [back()] * 21:
        calls += [step] + look
    return calls


class LineCase(unittest.TestCase):
    def assert_same(self, given, expected, told=None):
        """Two long lists, looked at one by one: to show how they differ as a whole may take minutes."""
        self.assertEqual(len(given), len(expected), told)
        for one, other in zip(given, expected):
            self.assertEqual(one, other, told)

    def assert_as_it_was(self, before, call, answer):
        """The call behind these others, the first of them a start, answers this, and changes nothing."""
        for ask in (ask_everything, ask_history):
            rest = ask(before[0][1], before[0][2])
            without = answer_all(before + rest)
            given = answer_all(before + [call] + rest)
            self.assertEqual(given[len(before)], answer, call)
            self.assert_same(given[:len(before)] + given[len(before) + 1:], without, call)

    def assert_refused(self, before, call, number):
        self.assert_as_it_was(before, call, [number])

    def assert_answers(self, pairs):
        """Calls one behind another, each with what it is to answer."""
        given = answer_all([call for call, answer in pairs])
        for (call, answer), told in zip(pairs, given):
            self.assertEqual(told, answer, call)
