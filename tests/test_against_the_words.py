"""Many calls drawn by chance, all eleven of them, against a second telling of the document's words.

It works everything out anew from the acts that were had, each time it is asked.
"""

import random
import struct
import unittest

from keptbymany.keepers import answers
from tests.helper import (ROOT, add, add_message, begin, had, hand, insert, insert_message, number, part, put,
                          put_message, remove, remove_message, row_of, set_key, set_message, since, take_bytes, tell,
                          text)

VALUES = [[0], [3], [4], [5], [3], [4], [4], [5], number(-9), number(12), text(b""), text(b'a"\\\xff')]
KEYS = [b"a", b"b", b"ab", b'"', b"\xff\x00"]


def whole_value(value, nothing):
    if not value or value[0] > 5 or (value[0] == 0 and not nothing):
        return False
    if value[0] == 2:
        return len(value) >= 2 and value[1] <= 64 and len(value) == 2 + value[1]
    return len(value) == (9 if value[0] == 1 else 1)


class Done:
    """An act, read from its message."""

    def __init__(self, message):
        self.message = message
        kind, self.keeper, self.n, self.t, t, r = struct.unpack("<BBIIIB", bytes(message[:15]))
        self.kind = kind
        self.made = (self.t, self.keeper)
        self.target = (t, r)
        rest = message[15:]
        self.told = [self.target]
        self.value = self.element = self.key = None
        if kind == 1:
            self.key, self.value = bytes(rest[1:1 + rest[0]]), rest[1 + rest[0]:]
        elif kind == 5:
            self.amount = struct.unpack("<q", bytes(rest))[0]
        else:
            self.element, self.value = struct.unpack("<IB", bytes(rest[:5])), rest[5:]
            self.told.append(self.element)


def right(message):
    if len(message) < 15 or message[0] not in (1, 2, 3, 4, 5) or message[1] > 7:
        return False
    if 0 in struct.unpack("<II", bytes(message[2:10])):
        return False
    kind, rest = message[0], message[15:]
    if kind == 1:
        return len(rest) > 1 and 1 <= rest[0] <= 32 and whole_value(rest[1 + rest[0]:], True)
    if kind in (2, 3):
        return whole_value(rest[5:], False)
    return len(rest) == (5 if kind == 4 else 8)


class Words:
    def __init__(self, keeper):
        self.keeper = keeper
        self.acts = []
        self.wait = []

    def counts(self):
        return [sum(act.keeper == keeper for act in self.acts) for keeper in range(8)]

    def kinds(self):
        return {ROOT: 3} | {act.made: act.value[0] for act in self.acts if act.value and act.value[0] > 2}

    def on(self, target, *kinds):
        return [act for act in self.acts if act.target == target and act.kind in kinds]

    def tree(self, target, before):
        """What stands behind one, in order, with all that is behind each."""
        order = []
        for act in sorted(self.on(target, 2), key=lambda act: act.made, reverse=True):
            if act.element == before:
                order += [act] + self.tree(target, act.made)
        return order

    def there(self, target):
        gone = [act.element for act in self.on(target, 4)]
        return [act for act in self.tree(target, ROOT) if act.made not in gone]

    def told_text(self, content):
        return b'"' + content.replace(b"\\", b"\\\\").replace(b'"', b'\\"') + b'"'

    def told_value(self, act):
        if act.value[0] == 1:
            return str(struct.unpack("<q", bytes(act.value[1:]))[0]).encode()
        return self.told_text(bytes(act.value[2:])) if act.value[0] == 2 else self.told(act.made, act.value[0])

    def told(self, target=ROOT, kind=3):
        if kind == 5:
            whole = sum(act.amount for act in self.on(target, 5)) % 2 ** 64
            return b"#" + str(whole - 2 ** 64 if whole >= 2 ** 63 else whole).encode()
        if kind == 4:
            puts = self.on(target, 3)
            newest = [max([one] + [act for act in puts if act.element == one.made], key=lambda act: act.made)
                      for one in self.there(target)]
            return b"[" + b",".join(self.told_value(act) for act in newest) + b"]"
        newest = {}
        for act in sorted(self.on(target, 1), key=lambda act: act.made):
            newest[act.key] = act
        keys = [key for key in sorted(newest) if newest[key].value != [0]]
        return b"{" + b",".join(self.told_text(key) + b":" + self.told_value(newest[key]) for key in keys) + b"}"

    def done(self, write, *rest):
        t = max([act.t for act in self.acts], default=0) + 1
        if t == 2 ** 32:
            return [-4]
        self.acts.append(Done(write(self.keeper, self.counts()[self.keeper] + 1, t, *rest)))
        return [0, *struct.pack("<IB", t, self.keeper)]

    def at(self, write, target, at, *value):
        """at is counted from the front for insert, from the first element for the others."""
        if value and not whole_value(value[0], False):
            return [-2]
        if self.kinds().get(target) != 4:
            return [-3]
        places = [act.made for act in self.there(target)]
        places = [ROOT] + places if write is insert_message else places
        return self.done(write, target, places[at], *value) if 0 <= at < len(places) else [-2]

    def since(self, most, numbers):
        if most < 0:
            return [-2]
        given = []
        for act in self.acts:
            if act.n > numbers[act.keeper]:
                if len(given) + len(act.message) + 2 > most:
                    break
                given += row_of(act.message)
        return [len(given), *given]

    def take(self, row):
        messages = []
        while row:
            size = row[0] + 256 * row[1] if len(row) > 1 else 70000
            if size > len(row) - 2 or not right(row[2:2 + size]):
                return [-3]
            messages.append(row[2:2 + size])
            row = row[2 + size:]
        before = len(self.acts)
        for message in messages:
            self.come(Done(message))
        return [len(self.acts) - before]

    def come(self, act):
        waits = [(one.keeper, one.n) for one in self.wait]
        if act.keeper == self.keeper or act.n <= self.counts()[act.keeper] or (act.keeper, act.n) in waits:
            return
        if len(self.wait) == 256:
            return
        self.wait.append(act)
        while any(self.can_be_had(one) for one in self.wait):
            first = [one for one in self.wait if self.can_be_had(one)][0]
            self.wait.remove(first)
            self.acts.append(first)

    def can_be_had(self, act):
        earlier = [one for one in self.acts if one.keeper == act.keeper]
        ids = [one.made for one in self.acts] + [ROOT]
        following = len(earlier) == act.n - 1 and all(one.t < act.t for one in earlier)
        return following and all(told in ids for told in act.told)


class Drawing:
    def __init__(self, seed):
        self.chance = random.Random(seed)
        self.keepers = [Words(keeper) for keeper in self.chance.choices(range(8), k=3)]
        self.calls = [begin(o, self.keepers[o].keeper) for o in range(3)]
        self.asked = [[0]] * 3
        # Of one faithful keeper each: what is done there goes on through take, in any order.
        self.strangers = [Words(keeper) for keeper in range(8)]

    def some_id(self, words, kind):
        fitting = [made for made, one in words.kinds().items() if one == kind]
        if not fitting or self.chance.randrange(15) == 0:
            fitting = [act.made for act in words.acts] + [ROOT, (self.chance.randrange(9), self.chance.randrange(10))]
        # The first ones are drawn more often, so that some lists grow.
        return fitting[int(len(fitting) * self.chance.random() ** 3)]

    def own(self, o):
        words, chance = self.keepers[o], self.chance
        kind = chance.choice((1, 1, 2, 2, 2, 2, 3, 3, 4, 5))
        target = self.some_id(words, {1: 3, 5: 5}.get(kind, 4))
        value = chance.choice(VALUES + [[6]])
        if kind == 1:
            key = chance.choice(KEYS)
            call = set_key(o, target, key, value)
            if not whole_value(value, True):
                return call, [-2]
            return call, words.done(set_message, target, key, value) if words.kinds().get(target) == 3 else [-3]
        if kind == 5:
            amount = chance.choice((1, -1, 2 ** 63 - 1, -2 ** 63))
            answer = words.done(add_message, target, amount) if words.kinds().get(target) == 5 else [-3]
            return add(o, target, amount), answer
        size = len(words.there(target))
        at = chance.randrange(-1, size + 2) if chance.randrange(6) == 0 else chance.randrange(size or 1)
        if kind == 4:
            return remove(o, target, at), words.at(remove_message, target, at)
        call, write = (insert, insert_message) if kind == 2 else (put, put_message)
        return call(o, target, at, value), words.at(write, target, at, value)

    def stranger_message(self):
        """An act of a keeper that may be on no object, on whatever ids are about, at whatever time."""
        chance = self.chance
        others = sorted({*range(8)} - {one.keeper for one in self.keepers})
        keeper = chance.choice(others) if chance.randrange(8) else chance.randrange(8)
        words = self.strangers[keeper]
        about = [act.made for one in self.keepers + self.strangers for act in one.acts][-12:] + [ROOT] * 4
        target, element = chance.choice(about), chance.choice(about)
        inserts = [act for one in self.keepers for act in one.acts if act.kind == 2][-6:]
        if inserts and chance.randrange(2):
            drawn = chance.choice(inserts)
            target, element = drawn.target, chance.choice((drawn.made, ROOT, element))
        latest = max([act.t for act in words.acts], default=0)
        t = latest + chance.randrange(1, 9) if chance.randrange(25) else chance.randrange(1, 9)
        n = len(words.acts) + 1 + (chance.randrange(60) == 0)
        value = chance.choice(VALUES[1:])
        message = chance.choice((
            set_message(keeper, n, t, target, chance.choice(KEYS), chance.choice(VALUES)),
            insert_message(keeper, n, t, target, element, value), put_message(keeper, n, t, target, element, value),
            remove_message(keeper, n, t, target, element), add_message(keeper, n, t, target, chance.randrange(-9, 9)),
        ))
        words.acts.append(Done(message))
        return message

    def row(self):
        chance = self.chance
        known = [act.message for one in self.keepers + self.strangers for act in one.acts]
        messages = [self.stranger_message() for _ in range(chance.randrange(4))]
        messages += chance.sample(known, min(len(known), chance.randrange(5)))
        chance.shuffle(messages)
        row = row_of(*messages)
        if row and chance.randrange(8) == 0:
            row[chance.randrange(len(row))] = chance.choice((0, 1, 6, 8, 33, 255, chance.randrange(256)))
        if row and chance.randrange(20) == 0:
            row = row[:chance.randrange(len(row))]
        return row

    def step(self):
        chance = self.chance
        o = chance.randrange(3)
        words = self.keepers[o]
        drawn = chance.randrange(40)
        if drawn == 0 and chance.randrange(4) == 0:
            keeper = chance.randrange(-1, 9)
            if 0 <= keeper < 8:
                self.keepers[o] = Words(keeper)
            return begin(o, keeper), [0] if 0 <= keeper < 8 else [-2]
        if drawn < 18:
            return self.own(o)
        most = chance.choice((-1, 0, 20, 60, 200, 2 ** 31 - 1, 2 ** 31 - 1))
        if drawn < 20:
            numbers = [chance.randrange(4) for _ in range(8)]
            return since(o, most, numbers), words.since(most, numbers)
        if drawn < 27:
            row = self.row()
            return take_bytes(o, row), words.take(row)
        if drawn < 29:
            return had(o), [0] + words.counts()
        if drawn < 34:
            content = words.told()
            return tell(o, most), [-2] if most < 0 else [-1] if len(content) > most else [len(content), *content]
        p = chance.randrange(3)
        given = words.since(most, self.keepers[p].counts())
        return hand(o, p, most), [given[0], self.keepers[p].take(given[1:])[0]]


class AgainstTheWords(unittest.TestCase):
    def test_drawn_calls(self):
        acts = waiting = 0
        for seed in range(200):
            drawing = Drawing(seed)
            while len(drawing.calls) < 197 and sum(len(call) for call in drawing.calls) < 15000:
                call, answer = drawing.step()
                drawing.calls.append(call)
                drawing.asked.append(answer)
            for o in range(3):
                content = drawing.keepers[o].told()
                drawing.calls.append(tell(o))
                drawing.asked.append([len(content), *content])
                acts += len(drawing.keepers[o].acts)
                waiting += len(drawing.keepers[o].wait)
            given = part(answers([whole for call in drawing.calls for whole in call]))
            self.assertEqual(given, drawing.asked, f"seed {seed}")
        self.assertGreater(acts, 10000)
        self.assertGreater(waiting, 2000)
