"""One keeper: the acts that it had, in order, and what they make; and those that wait."""

from keptbymany.acts import KEEPERS, Act
from keptbymany.document import Document
from keptbymany.identities import ROOT

MOST_ACTS = 4096
MOST_WAITING = 256
LAST_TIME = 4294967295


class Keeper:
    def __init__(self, who):
        self.who = who
        self.acts = []
        self.counts = [0] * KEEPERS
        self.last_times = [0] * KEEPERS
        self.time = 0
        # The root's id, which is the front's too, is no act's: nobody waits for it.
        self.known = {ROOT: True}
        # By keeper and number, in the order in which they came.
        self.waiting = {}
        self.document = Document()

    def has_room(self):
        return len(self.acts) < MOST_ACTS

    def can_do_more(self):
        return self.has_room() and self.time < LAST_TIME

    def do(self, change):
        act = Act(self.who, self.counts[self.who] + 1, self.time + 1, change)
        self.have(act)
        return act

    def have(self, act):
        self.acts.append(act)
        self.counts[act.keeper] += 1
        self.last_times[act.keeper] = act.t
        self.time = max(self.time, act.t)
        self.known[act.identity()] = True
        self.document.apply(act)

    # How many acts were had because this one came.
    def come(self, act):
        if self.leaves_out(act):
            return 0
        self.waiting[(act.keeper, act.n)] = act
        return self.have_waiting()

    def leaves_out(self, act):
        if act.keeper == self.who or act.n <= self.counts[act.keeper]:
            return True
        return (act.keeper, act.n) in self.waiting or len(self.waiting) >= MOST_WAITING

    # Each that is had may make one ready that stands ahead of it, so the search begins anew.
    def have_waiting(self):
        count = 0
        place = self.first_ready()
        while place is not None:
            self.have(self.waiting.pop(place))
            count += 1
            place = self.first_ready()
        return count

    def first_ready(self):
        if not self.has_room():
            return None
        for place in self.waiting:
            if self.is_ready(self.waiting[place]):
                return place
        return None

    def is_ready(self, act):
        if act.n != self.counts[act.keeper] + 1 or act.t <= self.last_times[act.keeper]:
            return False
        return all([identity in self.known for identity in act.change.told_identities()])
