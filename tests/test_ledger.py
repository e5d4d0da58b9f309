"""Point 1: what is a change, and that the last 20 are kept to be taken back."""

import unittest

from mostfavoured.changes import mf_drop, mf_duty, mf_favour, mf_follow, mf_mirror, mf_part, mf_settle, mf_start
from mostfavoured.changes import mf_union
from mostfavoured.ledger import Ledger


def seen(pact):
    return (pact.states, pact.goods, [[list(row) for row in rows] for rows in pact.laid], list(pact.clauses),
            list(pact.unions))


class Changes(unittest.TestCase):
    def setUp(self):
        self.ledger = Ledger()
        mf_start(self.ledger, 3, 2)

    def assert_a_change(self, call, *numbers):
        before = seen(self.ledger.pact)
        kept = len(self.ledger.past)
        self.assertGreaterEqual(call(self.ledger, *numbers)[0], 0)
        self.assertEqual(len(self.ledger.past), kept + 1)
        self.assertEqual(seen(self.ledger.past[-1]), before)

    def assert_no_change(self, call, *numbers):
        before = seen(self.ledger.pact)
        kept = [seen(pact) for pact in self.ledger.past]
        self.assertLess(call(self.ledger, *numbers)[0], 0)
        self.assertEqual(seen(self.ledger.pact), before)
        self.assertEqual([seen(pact) for pact in self.ledger.past], kept)

    def test_a_start_is_none(self):
        self.assertEqual(self.ledger.past, [])

    def test_each_call_that_is_not_refused(self):
        self.assert_a_change(mf_duty, 0, 1, 1, 40)
        self.assert_a_change(mf_duty, 0, 1, 1, 40)
        self.assert_a_change(mf_favour, 0, 1)
        self.assert_a_change(mf_mirror, 0, 1)
        self.assert_a_change(mf_follow, 0, 1, 2)
        self.assert_a_change(mf_drop, 1)
        self.assert_a_change(mf_union, 2, 0)
        self.assert_a_change(mf_part, 0, 2)
        self.assert_a_change(mf_settle)

    def test_none_that_is_refused(self):
        mf_favour(self.ledger, 0, 1)
        mf_union(self.ledger, 0, 1)
        self.assert_no_change(mf_duty, 0, 0, 1, 40)
        self.assert_no_change(mf_duty, 0, 1, 1, 101)
        self.assert_no_change(mf_favour, 0, 1)
        self.assert_no_change(mf_mirror, 0, 3)
        self.assert_no_change(mf_follow, 0, 1, 1)
        self.assert_no_change(mf_drop, 1)
        self.assert_no_change(mf_union, 1, 0)
        self.assert_no_change(mf_part, 0, 2)
        self.assert_no_change(mf_settle)
        self.assert_no_change(mf_start, 7, 1)

    def test_the_last_twenty_are_kept(self):
        for x in range(1, 21):
            mf_duty(self.ledger, 2, 0, 1, x)
        self.assertEqual([pact.laid[1][2][0] for pact in self.ledger.past], list(range(20)))
        mf_duty(self.ledger, 2, 0, 1, 21)
        self.assertEqual([pact.laid[1][2][0] for pact in self.ledger.past], list(range(1, 21)))

    def test_a_start_that_is_not_refused_leaves_none(self):
        mf_duty(self.ledger, 0, 1, 0, 5)
        mf_start(self.ledger, 2, 1)
        self.assertEqual(self.ledger.past, [])


if __name__ == "__main__":
    unittest.main()
