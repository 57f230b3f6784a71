import unittest

from keptbymany.keepers import answers
from tests.helper import (COUNTER, INT_MAX, INT_MIN, LIST, MAP, NOTHING, ROOT, add, add_message, ask, begin, counted,
                          done, had, had_numbers, hand, insert, insert_message, last, number, put, put_message, remove,
                          remove_message, row_of, set_key, set_message, since, take, tell, text)


def some(**numbers):
    return had_numbers(**numbers)[1:]


class Bytes(unittest.TestCase):
    """Each kind of act and of value, as its message."""

    def test_ordinary_as_numbers(self):
        calls = [0, 1, 3, 1, 1, 0, 0, 1, 9, 1, 97, 9, 1, 7, 0, 0, 0, 0, 0, 0, 0, 6, 1, 100, 8, 0, 0, 0, 0, 0, 0, 0, 0]
        asked = [26, 0, 1, 3, 1, 0, 0, 0, 1, 0, 0, 0, 0, 0, 0, 0, 0, 1, 97, 1, 7, 0, 0, 0, 0, 0, 0, 0]
        self.assertEqual(answers(calls), [1, 0, 6, 0, 1, 0, 0, 0, 3, 29, 28] + asked)

    def test_set_of_each_value(self):
        values = {
            (0,): NOTHING,
            (1, 255, 255, 255, 255, 255, 255, 255, 255): number(-1),
            (1, 0, 0, 0, 0, 0, 0, 0, 128): number(-9223372036854775808),
            (1, 255, 255, 255, 255, 255, 255, 255, 127): number(9223372036854775807),
            (2, 0): text(b""),
            (2, 3, 97, 34, 92): text(b'a"\\'),
            (3,): MAP,
            (4,): LIST,
            (5,): COUNTER,
        }
        for written in values:
            with self.subTest(value=written):
                given = last(begin(0, 6), set_key(0, ROOT, b"kl", values[written]), since(0))
                asked = [1, 6, 1, 0, 0, 0, 1, 0, 0, 0, 0, 0, 0, 0, 0, 2, 107, 108, *written]
                self.assertEqual(given, [len(asked) + 2, len(asked), 0, *asked])

    def test_the_longest_message(self):
        given = last(begin(0, 0), set_key(0, ROOT, [255] * 32, text(b"\x00" * 64)), since(0))
        self.assertEqual(given[:4], [116, 114, 0, 1])
        self.assertEqual(given[18:], [32] + [255] * 32 + [2, 64] + [0] * 64)

    def test_insert_put_remove_add(self):
        given = last(
            begin(0, 7),
            set_key(0, ROOT, b"l", LIST),
            insert(0, (1, 7), 0, text(b"x")),
            insert(0, (1, 7), 1, COUNTER),
            put(0, (1, 7), 0, MAP),
            remove(0, (1, 7), 0),
            add(0, (3, 7), -2),
            add(0, (3, 7), 258),
            since(0, INT_MAX, some(k7=1)),
        )
        asked = [
            [23, 0, 2, 7, 2, 0, 0, 0, 2, 0, 0, 0, 1, 0, 0, 0, 7, 0, 0, 0, 0, 0, 2, 1, 120],
            [21, 0, 2, 7, 3, 0, 0, 0, 3, 0, 0, 0, 1, 0, 0, 0, 7, 2, 0, 0, 0, 7, 5],
            [21, 0, 3, 7, 4, 0, 0, 0, 4, 0, 0, 0, 1, 0, 0, 0, 7, 2, 0, 0, 0, 7, 3],
            [20, 0, 4, 7, 5, 0, 0, 0, 5, 0, 0, 0, 1, 0, 0, 0, 7, 2, 0, 0, 0, 7],
            [23, 0, 5, 7, 6, 0, 0, 0, 6, 0, 0, 0, 3, 0, 0, 0, 7, 254, 255, 255, 255, 255, 255, 255, 255],
            [23, 0, 5, 7, 7, 0, 0, 0, 7, 0, 0, 0, 3, 0, 0, 0, 7, 2, 1, 0, 0, 0, 0, 0, 0],
        ]
        self.assertEqual(given, counted([byte for one in asked for byte in one]))

    def test_adds_at_the_ends_of_the_range(self):
        given = last(begin(0, 0), set_key(0, ROOT, b"c", COUNTER), add(0, (1, 0), 9223372036854775807),
                     add(0, (1, 0), -9223372036854775808), since(0, INT_MAX, some(k0=1)))
        self.assertEqual(given[18:26], [255] * 7 + [127])
        self.assertEqual(given[43:], [0] * 7 + [128])

    def test_times_and_ids_of_four_bytes(self):
        first = set_message(4, 1, 0x04030201, ROOT, b"l", LIST)
        self.assertEqual(first[6:10], [1, 2, 3, 4])
        given = ask(begin(0, 0), take(0, first), insert(0, (0x04030201, 4), 0, MAP), since(0))
        self.assertEqual(given[2], [0, 2, 2, 3, 4, 0])
        second = [2, 0, 1, 0, 0, 0, 2, 2, 3, 4, 1, 2, 3, 4, 4, 0, 0, 0, 0, 0, 3]
        self.assertEqual(given[3], counted([18, 0, *first, 21, 0, *second]))

    def test_numbers_of_two_bytes(self):
        messages = [remove_message(2, n, n, ROOT, ROOT) for n in range(1, 259)]
        given = last(begin(0, 0), take(0, *messages), since(0, INT_MAX, some(k2=255)))
        asked = [[20, 0, 4, 2, n, 1, 0, 0, n, 1, 0, 0] + [0] * 10 for n in range(3)]
        self.assertEqual(given, counted([byte for one in asked for byte in one]))

    def test_acts_that_came_are_given_as_they_came(self):
        messages = [
            set_message(1, 1, 5, ROOT, b"l", LIST),
            insert_message(1, 2, 9, (5, 1), ROOT, number(-3)),
            put_message(1, 3, 11, (5, 1), (9, 1), text(b"\xff")),
            remove_message(1, 4, 4294967294, (5, 1), (9, 1)),
            add_message(1, 5, 4294967295, (5, 1), -1),
            insert_message(2, 1, 1, ROOT, (9, 1), COUNTER),
        ]
        self.assertEqual(last(begin(0, 0), take(0, *messages), since(0)), counted(row_of(*messages)))


class Most(unittest.TestCase):
    # Messages of 20, 60 and 20 bytes, each with its length.
    BEFORE = (begin(0, 5), set_key(0, ROOT, b"a", NOTHING), set_key(0, ROOT, b"b", text(b"x" * 39)),
              set_key(0, ROOT, b"c", NOTHING))
    MESSAGES = (set_message(5, 1, 1, ROOT, b"a", NOTHING), set_message(5, 2, 2, ROOT, b"b", text(b"x" * 39)),
                set_message(5, 3, 3, ROOT, b"c", NOTHING))

    def test_below_zero(self):
        for most in (-1, -100, INT_MIN):
            self.assertEqual(last(*self.BEFORE, since(0, most)), [-2])
            self.assertEqual(last(begin(0, 5), since(0, most)), [-2])

    def test_as_many_as_have_room(self):
        fitting = {0: 0, 1: 0, 19: 0, 20: 1, 21: 1, 40: 1, 78: 1, 79: 1, 80: 2, 81: 2, 99: 2, 100: 3, 101: 3,
                   65536: 3, INT_MAX: 3}
        self.assertEqual([len(row_of(one)) for one in self.MESSAGES], [20, 60, 20])
        for most in fitting:
            with self.subTest(most=most):
                asked = counted(row_of(*self.MESSAGES[:fitting[most]]))
                self.assertEqual(last(*self.BEFORE, since(0, most)), asked)

    def test_none_behind_the_first_without_room(self):
        self.assertEqual(last(*self.BEFORE, since(0, 59, some(k5=1))), [0])
        self.assertEqual(last(*self.BEFORE, since(0, 20, some(k5=1))), [0])
        self.assertEqual(last(*self.BEFORE, since(0, 20, some(k5=2))), counted(row_of(self.MESSAGES[2])))

    def test_of_nothing_had(self):
        for most in (0, 1, INT_MAX):
            self.assertEqual(ask(begin(0, 0), since(0, most)), [[0], [0]])
        self.assertEqual(answers([0, 0, 0, 6, 0, 0, 8] + [0] * 8), [1, 0, 1, 0])


class Had(unittest.TestCase):
    OF_ONE = tuple(set_message(1, n, n, ROOT, b"a", number(n)) for n in range(1, 5))
    OF_SEVEN = tuple(set_message(7, n, n, ROOT, b"b", number(n)) for n in range(1, 4))
    OWN = (set_message(0, 1, 5, ROOT, b"c", MAP), set_message(0, 2, 6, ROOT, b"d", MAP))
    BEFORE = (begin(0, 0), take(0, *OF_ONE[:2]), take(0, *OF_SEVEN), take(0, *OF_ONE[2:]),
              set_key(0, ROOT, b"c", MAP), set_key(0, ROOT, b"d", MAP))
    ALL = OF_ONE[:2] + OF_SEVEN + OF_ONE[2:] + OWN

    def test_all_in_the_order_in_which_they_were_had(self):
        self.assertEqual(last(*self.BEFORE, since(0)), counted(row_of(*self.ALL)))

    def test_in_the_middle(self):
        asked = self.OF_ONE[1:2] + self.OF_SEVEN[2:] + self.OF_ONE[2:] + self.OWN[1:]
        self.assertEqual(last(*self.BEFORE, since(0, INT_MAX, some(k0=1, k1=1, k7=2))), counted(row_of(*asked)))

    def test_just_what_was_had(self):
        self.assertEqual(last(*self.BEFORE, since(0, INT_MAX, some(k0=2, k1=4, k7=3))), [0])

    def test_above_what_was_had(self):
        self.assertEqual(last(*self.BEFORE, since(0, INT_MAX, some(k0=3, k1=5, k7=4))), [0])
        self.assertEqual(last(*self.BEFORE, since(0, INT_MAX, [4294967295] * 8)), [0])
        asked = counted(row_of(*self.OF_SEVEN, *self.OWN))
        self.assertEqual(last(*self.BEFORE, since(0, INT_MAX, some(k1=4294967295))), asked)

    def test_each_keeper_by_itself(self):
        asked = {
            (9, 9, 9, 9, 9, 9, 9, 0): self.OF_SEVEN,
            (9, 0, 9, 9, 9, 9, 9, 9): self.OF_ONE,
            (0, 9, 9, 9, 9, 9, 9, 9): self.OWN,
            (9, 9, 0, 0, 0, 0, 0, 9): (),
        }
        for numbers in asked:
            self.assertEqual(last(*self.BEFORE, since(0, INT_MAX, numbers)), counted(row_of(*asked[numbers])))

    def test_what_waits_is_not_given(self):
        self.assertEqual(last(begin(0, 0), take(0, *self.OF_ONE[1:]), since(0)), [0])

    def test_nothing_changes(self):
        given = ask(*self.BEFORE, tell(0), had(0), since(0), since(0, 30), since(0, -1), tell(0), had(0), since(0),
                    set_key(0, ROOT, b"e", MAP))
        self.assertEqual(given[6:8], given[11:13])
        self.assertEqual(given[8], given[13])
        self.assertEqual(given[14], done(7, 0))

    def test_each_object_by_itself(self):
        given = ask(begin(0, 0), begin(1, 1), set_key(0, ROOT, b"a", MAP), since(1), hand(0, 1), since(1))
        self.assertEqual(given[3:], [[0], [20, 1], counted(row_of(set_message(0, 1, 1, ROOT, b"a", MAP)))])
