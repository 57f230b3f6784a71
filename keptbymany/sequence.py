"""The order of a list: each element stands behind another or in front of all."""

from keptbymany.identities import FRONT


class Sequence:
    def __init__(self):
        # The lesser id first, so that the greater is the first to be popped on the walk.
        self.behind = {FRONT: []}
        self.removed = {}

    def place(self, element, before):
        if before not in self.behind:
            return
        self.behind[before] = sorted(self.behind[before] + [element])
        self.behind[element] = []

    def take_out(self, element):
        self.removed[element] = True

    # A list may be one long chain of elements behind one another: a stack, not calls within calls.
    def present(self):
        there = []
        to_visit = list(self.behind[FRONT])
        while to_visit:
            element = to_visit.pop()
            if element not in self.removed:
                there.append(element)
            to_visit.extend(self.behind[element])
        return there
