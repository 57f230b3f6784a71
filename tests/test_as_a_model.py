"""Many calls drawn by chance, against a second, plainer telling of points 1 and 2."""

import random
import unittest

from keptbymany.keepers import answers
from tests.helper import (INT_MAX, INT_MIN, ROOT, add, begin, insert, insert_with_count, number, part, put,
                          put_with_count, remove, set_key, set_with_counts, text)

WRONG_VALUES = [[], [6], [3, 3], [2, 9, 1], [1, 2]]
VALUES = [[0], [3], [4], [5], number(-9), text(b""), text(b"ab")]


class Model:
    """One keeper: what each act brought, and each list as a plain list, right where all acts are its own."""

    def __init__(self, keeper):
        self.keeper = keeper
        self.time = 0
        self.kinds = {ROOT: 3}
        self.lists = {}

    def done(self, value):
        self.time += 1
        made = (self.time, self.keeper)
        if value in ([3], [4], [5]):
            self.kinds[made] = value[0]
            self.lists[made] = []
        return made

    def answer(self, call, target, *rest):
        needed = {set_key: 3, insert: 4, put: 4, remove: 4, add: 5}[call]
        value = None if call in (remove, add) else rest[1]
        wrong = call is set_key and not 1 <= len(rest[0]) <= 32
        if wrong or value in WRONG_VALUES or (call in (insert, put) and value == [0]):
            return [-2]
        if self.kinds.get(target) != needed:
            return [-3]
        if needed == 4 and not 0 <= rest[0] < len(self.lists[target]) + (call is insert):
            return [-2]
        made = self.done(value)
        if call is insert:
            self.lists[target].insert(rest[0], made)
        if call is remove:
            self.lists[target].pop(rest[0])
        return [0, *made[0].to_bytes(4, "little"), made[1]]


def written(call, o, target, rest):
    if call is set_key and (len(rest[0]) not in range(1, 33) or not rest[1]):
        return set_with_counts(o, target, len(rest[0]), len(rest[1]), [], [])
    if call is insert and not rest[1]:
        return insert_with_count(o, target, rest[0], 67, [])
    if call is put and not rest[1]:
        return put_with_count(o, target, rest[0], -1, [])
    return call(o, target, *rest)


class AgainstTheModel(unittest.TestCase):
    def drawn(self, chance, model):
        call = chance.choice((set_key, insert, insert, insert, put, remove, add))
        fitting = [target for target in model.kinds if model.kinds[target] == {set_key: 3, add: 5}.get(call, 4)]
        if not fitting and chance.randrange(4):
            call, fitting = set_key, [ROOT]
        target = chance.choice(fitting or list(model.kinds))
        if chance.randrange(12) == 0:
            target = (chance.randrange(12), chance.choice((0, 1, 2, 8, 255)))
        size = len(model.lists.get(target, []))
        at = chance.randrange(size + 1)
        if chance.randrange(4) == 0:
            at = chance.choice((0, size, size - 1, size + 1, -1, INT_MIN, INT_MAX))
        value = chance.choice(VALUES if chance.randrange(6) else WRONG_VALUES)
        if call is set_key:
            return call, target, [[97] * chance.choice((1, 1, 2, 32, 33, 0)), value]
        if call is add:
            return call, target, [chance.randrange(-9, 9)]
        return call, target, [at] if call is remove else [at, value]

    def test_drawn_calls(self):
        done = 0
        for seed in range(150):
            chance = random.Random(seed)
            models = [Model(chance.randrange(8)) for _ in range(3)]
            calls = [begin(o, models[o].keeper) for o in range(3)]
            asked = [[0], [0], [0]]
            while len(calls) < 200:
                o = chance.randrange(3)
                if chance.randrange(100) == 0:
                    keeper = chance.randrange(-1, 9)
                    models[o] = Model(keeper) if 0 <= keeper < 8 else models[o]
                    calls.append(begin(o, keeper))
                    asked.append([0] if 0 <= keeper < 8 else [-2])
                    continue
                call, target, rest = self.drawn(chance, models[o])
                calls.append(written(call, o, target, rest))
                asked.append(models[o].answer(call, target, *rest))
            given = part(answers([whole for call in calls for whole in call]))
            self.assertEqual(given, asked)
            done += sum(len(answer) == 6 for answer in given)
        self.assertGreater(done, 10000)
