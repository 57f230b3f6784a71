import unittest

from keptbymany.keepers import answers
from tests.helper import (COUNTER, INT_MAX, INT_MIN, LIST, MAP, NOTHING, ROOT, ask, begin, done, last, number,
                          set_key, set_with_counts, text)


class Set(unittest.TestCase):
    def test_ordinary_as_numbers(self):
        calls = [0, 1, 5, 1, 1, 0, 0, 1, 9, 1, 97, 9, 1, 7, 0, 0, 0, 0, 0, 0, 0]
        self.assertEqual(answers(calls), [1, 0, 6, 0, 1, 0, 0, 0, 5])

    def test_several(self):
        given = ask(begin(0, 2), *[set_key(0, ROOT, b"a", number(5)) for _ in range(5)])
        self.assertEqual(given, [[0]] + [done(t, 2) for t in range(1, 6)])

    def test_the_time_has_four_bytes_little_endian(self):
        # 199 acts fit one list: the second byte is looked at in test_limits.
        given = ask(begin(0, 7), *[set_key(0, ROOT, b"a", NOTHING) for _ in range(199)])
        self.assertEqual(given[-1], [0, 199, 0, 0, 0, 7])

    def test_in_maps_within_maps(self):
        calls = [begin(0, 0), set_key(0, ROOT, b"a", MAP)]
        calls += [set_key(0, (t, 0), b"a", MAP) for t in range(1, 150)]
        self.assertEqual(ask(*calls), [[0]] + [done(t, 0) for t in range(1, 151)])

    def test_key_lengths(self):
        for k in (1, 2, 31, 32):
            with self.subTest(k=k):
                self.assertEqual(last(begin(0, 0), set_key(0, ROOT, [255] * k, number(1))), done(1, 0))

    def test_keys_of_any_bytes(self):
        for byte in (0, 34, 92, 128, 255):
            self.assertEqual(last(begin(0, 0), set_key(0, ROOT, [byte], number(1))), done(1, 0))

    def test_wrong_k(self):
        for k in (0, 33, -1, -32, INT_MIN, INT_MAX):
            with self.subTest(k=k):
                self.assertEqual(last(begin(0, 0), set_with_counts(0, ROOT, k, 1, [], [])), [-2])

    def test_wrong_n(self):
        for n in (0, 67, -1, -66, INT_MIN, INT_MAX):
            with self.subTest(n=n):
                self.assertEqual(last(begin(0, 0), set_with_counts(0, ROOT, 1, n, [], [])), [-2])

    def test_wrong_k_and_n(self):
        self.assertEqual(last(begin(0, 0), set_with_counts(0, ROOT, 0, 67, [], [])), [-2])

    def test_n_at_its_edges(self):
        self.assertEqual(last(begin(0, 0), set_key(0, ROOT, b"k", NOTHING)), done(1, 0))
        self.assertEqual(last(begin(0, 0), set_key(0, ROOT, b"k", text(b"x" * 64))), done(1, 0))

    def test_no_object(self):
        for target in ((1, 0), (0, 1), (0, 255), (4294967295, 255), (4294967295, 0)):
            with self.subTest(target=target):
                self.assertEqual(last(begin(0, 0), set_key(0, target, b"a", number(1))), [-3])

    def test_object_of_another_kind(self):
        for value in (LIST, COUNTER):
            self.assertEqual(last(begin(0, 0), set_key(0, ROOT, b"a", value), set_key(0, (1, 0), b"a", MAP)), [-3])

    def test_after_refusals_nothing_has_changed(self):
        given = ask(
            begin(0, 0),
            set_with_counts(0, ROOT, 0, 1, [], []),
            set_key(0, ROOT, b"a", [3, 3]),
            set_key(0, (1, 0), b"a", MAP),
            set_key(0, (1, 0), b"a", MAP),
            set_key(0, ROOT, b"a", MAP),
            set_key(0, (1, 0), b"a", MAP),
        )
        self.assertEqual(given, [[0], [-2], [-2], [-3], [-3], done(1, 0), done(2, 0)])

    def test_an_object_stays_when_its_key_is_set_anew(self):
        given = ask(
            begin(0, 0),
            set_key(0, ROOT, b"a", MAP),
            set_key(0, ROOT, b"a", NOTHING),
            set_key(0, (1, 0), b"a", MAP),
        )
        self.assertEqual(given[-1], done(3, 0))
