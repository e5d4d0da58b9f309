"""A line of calls on one object, handed in and answered as lists of whole numbers."""

from mostfavoured.changes import mf_drop, mf_duty, mf_favour, mf_follow, mf_mirror, mf_part, mf_settle, mf_start
from mostfavoured.changes import mf_union
from mostfavoured.history import mf_again, mf_back, mf_state
from mostfavoured.ledger import Ledger
from mostfavoured.questions import mf_alike, mf_clause, mf_falls, mf_idle, mf_kept, mf_laid, mf_moves, mf_row
from mostfavoured.questions import mf_takes, mf_why, mf_would

# How many numbers stand behind a call's own number, which is where it stands here.
NUMBERS_BEHIND = (2, 4, 2, 2, 3, 1, 1, 2, 2, 3, 3, 2, 0, 4, 3, 3, 0, 0, 2, 0, 0, 0, 0)

QUESTIONS = (6, 9, 10, 11, 12, 13, 14, 15, 16, 18, 19)
OF_THE_HISTORY = (20, 21, 22)


def answers(calls):
    """Answer the calls one behind another: for each, how many numbers are answered, then these."""
    ledger = Ledger()
    given = []
    at = 0
    while at < len(calls):
        behind = at + 1 + NUMBERS_BEHIND[calls[at]]
        answer = answer_call(ledger, calls[at:behind])
        given.append(len(answer))
        given.extend(answer)
        at = behind
    return given


def answer_call(ledger, call):
    # A question is handed the pact alone, so that it can change nothing.
    if call[0] in QUESTIONS:
        return answer_question(ledger.pact, call)
    if call[0] in OF_THE_HISTORY:
        return answer_of_history(ledger, call)
    return answer_change(ledger, call)


def answer_question(pact, call):
    number = call[0]
    if number == 6:
        return mf_clause(pact, call[1])
    if number == 9:
        return mf_laid(pact, call[1], call[2], call[3])
    if number == 10:
        return mf_takes(pact, call[1], call[2], call[3])
    if number == 11:
        return mf_row(pact, call[1], call[2])
    if number == 12:
        return mf_falls(pact)
    if number == 13:
        return mf_would(pact, call[1], call[2], call[3], call[4])
    if number == 14:
        return mf_why(pact, call[1], call[2], call[3])
    if number == 15:
        return mf_moves(pact, call[1], call[2], call[3])
    if number == 16:
        return mf_kept(pact)
    if number == 18:
        return mf_alike(pact, call[1], call[2])
    return mf_idle(pact)


def answer_of_history(ledger, call):
    number = call[0]
    if number == 20:
        return mf_back(ledger)
    if number == 21:
        return mf_again(ledger)
    return mf_state(ledger)


def answer_change(ledger, call):
    number = call[0]
    if number == 0:
        return mf_start(ledger, call[1], call[2])
    if number == 1:
        return mf_duty(ledger, call[1], call[2], call[3], call[4])
    if number == 2:
        return mf_favour(ledger, call[1], call[2])
    if number == 3:
        return mf_mirror(ledger, call[1], call[2])
    if number == 4:
        return mf_follow(ledger, call[1], call[2], call[3])
    if number == 5:
        return mf_drop(ledger, call[1])
    if number == 7:
        return mf_union(ledger, call[1], call[2])
    if number == 8:
        return mf_part(ledger, call[1], call[2])
    return mf_settle(ledger)
