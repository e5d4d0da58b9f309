"""A line of calls on one object, handed in and answered as lists of whole numbers."""

from mostfavoured.changes import mf_drop, mf_duty, mf_favour, mf_follow, mf_mirror, mf_part, mf_start, mf_union
from mostfavoured.ledger import Ledger
from mostfavoured.questions import mf_clause, mf_laid, mf_row, mf_takes

# How many numbers stand behind a call's own number.
NUMBERS_BEHIND = {0: 2, 1: 4, 2: 2, 3: 2, 4: 3, 5: 1, 6: 1, 7: 2, 8: 2, 9: 3, 10: 3, 11: 2}

QUESTIONS = (6, 9, 10, 11)


def answers(calls):
    """Answer the calls one behind another: for each, how many numbers are answered, then these."""
    ledger = Ledger()
    given = []
    at = 0
    while at < len(calls):
        behind = at + 1 + NUMBERS_BEHIND[calls[at]]
        answer = answer_call(ledger, calls[at:behind])
        given.append(len(answer))
        given.extend(answer)
        at = behind
    return given


def answer_call(ledger, call):
    # A question is handed the pact alone, so that it can change nothing.
    if call[0] in QUESTIONS:
        return answer_question(ledger.pact, call)
    return answer_change(ledger, call)


def answer_question(pact, call):
    number = call[0]
    if number == 6:
        return mf_clause(pact, call[1])
    if number == 9:
        return mf_laid(pact, call[1], call[2], call[3])
    if number == 10:
        return mf_takes(pact, call[1], call[2], call[3])
    return mf_row(pact, call[1], call[2])


def answer_change(ledger, call):
    number = call[0]
    if number == 0:
        return mf_start(ledger, call[1], call[2])
    if number == 1:
        return mf_duty(ledger, call[1], call[2], call[3], call[4])
    if number == 2:
        return mf_favour(ledger, call[1], call[2])
    if number == 3:
        return mf_mirror(ledger, call[1], call[2])
    if number == 4:
        return mf_follow(ledger, call[1], call[2], call[3])
    if number == 5:
        return mf_drop(ledger, call[1])
    if number == 7:
        return mf_union(ledger, call[1], call[2])
    return mf_part(ledger, call[1], call[2])
