"""Acts: what was done, and who did it when."""

KEEPERS = 8
MOST_KEY_BYTES = 32

SET = 1
INSERT = 2
PUT = 3
REMOVE = 4
ADD = 5


class Change:
    # Each kind of act has its own part of these; the others stay as they are here.
    def __init__(self, kind, target, key=None, element=None, value=None, amount=0):
        self.kind = kind
        self.target = target
        self.key = key
        self.element = element
        self.value = value
        self.amount = amount

    def told_identities(self):
        if self.element is None:
            return [self.target]
        return [self.target, self.element]


class Act:
    def __init__(self, keeper, n, t, change):
        self.keeper = keeper
        self.n = n
        self.t = t
        self.change = change

    def identity(self):
        return (self.t, self.keeper)
