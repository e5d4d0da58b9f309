"""The calls that go back and forth among the changes of a ledger, and the one that counts what is there."""

from mostfavoured.refusals import NONE_THERE


def mf_back(ledger):
    if len(ledger.past) == 0:
        return [NONE_THERE]
    ledger.take_back()
    return [len(ledger.past)]


def mf_again(ledger):
    if len(ledger.undone) == 0:
        return [NONE_THERE]
    ledger.do_again()
    return [len(ledger.undone)]


def mf_state(ledger):
    pact = ledger.pact
    counts = [pact.states, pact.goods, len(pact.unions), len(ledger.past), len(ledger.undone)]
    return [len(pact.clauses)] + counts
