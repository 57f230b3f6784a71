"""One keeper: the acts that it had, in order, and what they make."""

from keptbymany.acts import Act
from keptbymany.document import Document

KEEPERS = 8
MOST_ACTS = 4096
LAST_TIME = 4294967295


class Keeper:
    def __init__(self, who):
        self.who = who
        self.acts = []
        self.counts = [0] * KEEPERS
        self.time = 0
        self.document = Document()

    def can_do_more(self):
        return len(self.acts) < MOST_ACTS and self.time < LAST_TIME

    def do(self, change):
        act = Act(self.who, self.counts[self.who] + 1, self.time + 1, change)
        self.have(act)
        return act

    def have(self, act):
        self.acts.append(act)
        self.counts[act.keeper] += 1
        self.time = max(self.time, act.t)
        self.document.apply(act)
