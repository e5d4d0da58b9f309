"""The one object of a line of calls: the pact as it is, and what changes can be taken back or done again."""

MOST_TAKEN_BACK = 20


# past holds the pacts ahead of the last changes, the latest one last;
# undone holds the pacts behind the changes that were taken back, the one taken back last at the end.
class Ledger:
    def __init__(self):
        self.pact = None
        self.past = []
        self.undone = []

    def begin(self, pact):
        self.pact = pact
        self.past = []
        self.undone = []

    def change_to(self, pact):
        past = self.past + [self.pact]
        self.past = past[-MOST_TAKEN_BACK:]
        self.undone = []
        self.pact = pact

    def take_back(self):
        self.undone.append(self.pact)
        self.pact = self.past.pop()

    def do_again(self):
        self.past.append(self.pact)
        self.pact = self.undone.pop()
