import unittest

from tests.helper import (COUNTER, LIST, MAP, NOTHING, ROOT, add, ask, begin, done, insert, last, number, put,
                          remove, set_key, text)

USES = {
    3: lambda target: set_key(0, target, b"a", number(1)),
    4: lambda target: insert(0, target, 0, number(1)),
    5: lambda target: add(0, target, 1),
}


def kind_told(calls, target):
    """The one object kind that the id is taken for, or None."""
    kinds = [kind for kind in USES if last(*calls, USES[kind](target)) != [-3]]
    if len(kinds) > 1:
        raise AssertionError("an id of two kinds")
    return kinds[0] if kinds else None


class Ids(unittest.TestCase):
    def test_the_root_is_a_map(self):
        for keeper in range(8):
            self.assertEqual(kind_told([begin(0, keeper)], ROOT), 3)

    def test_no_other_id_of_time_zero(self):
        for r in (1, 7, 8, 255):
            self.assertIsNone(kind_told([begin(0, 1)], (0, r)))

    def test_brought_by_set(self):
        for kind in (3, 4, 5):
            self.assertEqual(kind_told([begin(0, 2), set_key(0, ROOT, b"a", [kind])], (1, 2)), kind)

    def test_brought_by_insert(self):
        for kind in (3, 4, 5):
            calls = [begin(0, 2), set_key(0, ROOT, b"a", LIST), insert(0, (1, 2), 0, [kind])]
            self.assertEqual(kind_told(calls, (2, 2)), kind)

    def test_brought_by_put(self):
        for kind in (3, 4, 5):
            calls = [begin(0, 2), set_key(0, ROOT, b"a", LIST), insert(0, (1, 2), 0, MAP), put(0, (1, 2), 0, [kind])]
            self.assertEqual(kind_told(calls, (3, 2)), kind)
            self.assertEqual(kind_told(calls, (2, 2)), 3)

    def test_brought_no_object(self):
        calls = [
            begin(0, 2),
            set_key(0, ROOT, b"l", LIST),
            set_key(0, ROOT, b"c", COUNTER),
            set_key(0, ROOT, b"a", NOTHING),
            set_key(0, ROOT, b"a", number(3)),
            set_key(0, ROOT, b"a", text(b"\x03\x04\x05")),
            insert(0, (1, 2), 0, number(4)),
            put(0, (1, 2), 0, text(b"")),
            remove(0, (1, 2), 0),
            add(0, (2, 2), 3),
        ]
        self.assertEqual(ask(*calls)[-1], done(9, 2))
        self.assertEqual([kind_told(calls, (t, 2)) for t in range(1, 11)], [4, 5] + [None] * 8)

    def test_of_another_keeper(self):
        calls = [begin(0, 2), set_key(0, ROOT, b"a", MAP)]
        for keeper in (0, 1, 3, 7, 8, 128, 255):
            self.assertIsNone(kind_told(calls, (1, keeper)))

    def test_of_another_time(self):
        calls = [begin(0, 2), set_key(0, ROOT, b"a", MAP)]
        for t in (0, 2, 257, 4294967295):
            self.assertIsNone(kind_told(calls, (t, 2)))

    def test_refused_acts_bring_no_object(self):
        calls = [begin(0, 2), set_key(0, (9, 9), b"a", MAP), set_key(0, ROOT, b"a", [4, 4]), add(0, ROOT, 1)]
        self.assertIsNone(kind_told(calls, (1, 2)))

    def test_deep_within_one_another(self):
        calls = [begin(0, 0), set_key(0, ROOT, b"a", LIST)]
        calls += [insert(0, (t, 0), 0, LIST) for t in range(1, 190)]
        self.assertEqual(kind_told(calls, (190, 0)), 4)


class OrderOfRefusals(unittest.TestCase):
    BEFORE = (begin(0, 0), set_key(0, ROOT, b"l", LIST), insert(0, (1, 0), 0, MAP))

    def test_wrong_value_and_wrong_id(self):
        for call in (set_key(0, (9, 9), b"a", [6]), insert(0, (9, 9), 0, [0]), put(0, (9, 9), 0, [1, 2]),
                     insert(0, ROOT, 0, [0]), put(0, (2, 0), 0, [0]), set_key(0, (1, 0), b"a", [3, 3])):
            self.assertEqual(last(*self.BEFORE, call), [-2])

    def test_wrong_id_and_at_out_of_range(self):
        for target in ((9, 9), ROOT, (2, 0)):
            for at in (-1, 2, 7):
                for call in (insert(0, target, at, MAP), put(0, target, at, MAP), remove(0, target, at)):
                    self.assertEqual(last(*self.BEFORE, call), [-3])

    def test_wrong_value_and_at_out_of_range_change_nothing(self):
        given = ask(*self.BEFORE, insert(0, (1, 0), 9, [6]), put(0, (1, 0), 9, [6]), insert(0, (1, 0), 1, MAP))
        self.assertEqual(given[3:], [[-2], [-2], done(3, 0)])
