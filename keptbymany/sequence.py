"""A list: each element stands behind another or in front of all, and has the newest of its values."""

from keptbymany.identities import FRONT


class Sequence:
    def __init__(self):
        # The lesser id first, so that the greater is the first to be popped on the walk.
        self.behind = {FRONT: []}
        self.newest = {}
        self.removed = {}

    def place(self, element, before, value):
        if before not in self.behind:
            return
        self.behind[before] = sorted(self.behind[before] + [element])
        self.behind[element] = []
        self.newest[element] = (element, value)

    # A put may have a lesser id than the insert, where its keeper's time was behind.
    def put(self, element, identity, value):
        if element in self.newest and identity > self.newest[element][0]:
            self.newest[element] = (identity, value)

    def take_out(self, element):
        self.removed[element] = True

    # A list may be one long chain of elements behind one another: a stack, not calls within calls.
    def present(self):
        there = []
        to_visit = list(self.behind[FRONT])
        while to_visit:
            element = to_visit.pop()
            if element not in self.removed:
                there.append(element)
            to_visit.extend(self.behind[element])
        return there

    def entries_present(self):
        return [self.newest[element] for element in self.present()]
