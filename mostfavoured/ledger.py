"""The one object of a line of calls: the pact as it is, and what changes can be taken back."""

MOST_TAKEN_BACK = 20


# past holds the pacts ahead of the last changes, the latest one last.
class Ledger:
    def __init__(self):
        self.pact = None
        self.past = []

    def begin(self, pact):
        self.pact = pact
        self.past = []

    def change_to(self, pact):
        past = self.past + [self.pact]
        self.past = past[-MOST_TAKEN_BACK:]
        self.pact = pact
