import unittest

from keptbymany.valuekinds import is_whole_value
from tests.helper import LIST, NOTHING, ROOT, begin, done, insert, last, number, put, set_key, text

# A list (1, 0) with one element, so that all three calls that bring a value have where to bring it.
BEFORE = (begin(0, 0), set_key(0, ROOT, b"l", LIST), insert(0, (1, 0), 0, number(0)))
DONE = done(3, 0)

WHOLE = {
    "number 0": number(0),
    "number -1": number(-1),
    "greatest number": number(9223372036854775807),
    "least number": number(-9223372036854775808),
    "empty text": text(b""),
    "text of one": text(b"x"),
    "text of 63": text(b"x" * 63),
    "text of 64": text(b"x" * 64),
    "text of any bytes": text(bytes(range(192, 256))),
    "text with signs": text(b'"\\\x00'),
    "map": [3],
    "list": [4],
    "counter": [5],
}

NOT_WHOLE = {
    "nothing and more": [0, 0],
    "number of none": [1],
    "number of seven": [1] + [0] * 7,
    "number of nine": [1] + [0] * 9,
    "number of 65": [1] + [0] * 65,
    "text without its count": [2],
    "text of too few": [2, 3, 97, 97],
    "text of too many": [2, 3, 97, 97, 97, 97],
    "empty text and more": [2, 0, 0],
    "text that has only its count": [2, 1],
    "text of 64 with one less": [2, 64] + [97] * 63,
    "text of 65 with 64": [2, 65] + [97] * 64,
    "text of 63 with 64": [2, 63] + [97] * 64,
    "text of 255": [2, 255] + [97] * 64,
    "map and more": [3, 0],
    "two maps": [3, 3],
    "list and more": [4, 0],
    "counter and more": [5, 0],
    "counter and a number": [5] + number(1),
    "kind 6": [6],
    "kind 7 as long as a number": [7] + [0] * 8,
    "kind 255": [255],
    "kind 128 of 66": [128] + [0] * 65,
}

BRINGING = {
    "set": lambda value: set_key(0, ROOT, b"a", value),
    "insert": lambda value: insert(0, (1, 0), 0, value),
    "put": lambda value: put(0, (1, 0), 0, value),
}


class Values(unittest.TestCase):
    def test_whole(self):
        for call in BRINGING:
            for name in WHOLE:
                with self.subTest(call=call, value=name):
                    self.assertEqual(last(*BEFORE, BRINGING[call](WHOLE[name])), DONE)

    def test_not_whole(self):
        for call in BRINGING:
            for name in NOT_WHOLE:
                with self.subTest(call=call, value=name):
                    self.assertEqual(last(*BEFORE, BRINGING[call](NOT_WHOLE[name])), [-2])

    def test_nothing_is_for_set_alone(self):
        self.assertEqual(last(*BEFORE, BRINGING["set"](NOTHING)), DONE)
        self.assertEqual(last(*BEFORE, BRINGING["insert"](NOTHING)), [-2])
        self.assertEqual(last(*BEFORE, BRINGING["put"](NOTHING)), [-2])

    def test_every_kind_by_itself(self):
        for kind in range(256):
            with self.subTest(kind=kind):
                given = last(*BEFORE, BRINGING["put"]([kind]))
                self.assertEqual(given, DONE if kind in (3, 4, 5) else [-2])

    def test_a_text_too_long_for_any_call(self):
        self.assertTrue(is_whole_value([2, 64] + [97] * 64))
        self.assertFalse(is_whole_value([2, 65] + [97] * 65))
        self.assertFalse(is_whole_value([2, 255] + [97] * 255))
