import unittest

from keptbymany.exchanging import do_hand
from keptbymany.keepers import answers
from keptbymany.keeping import Keeper
from keptbymany.doing import do_add, do_set
from tests.helper import (COUNTER, INT_MAX, INT_MIN, LIST, MAP, ROOT, ask, begin, counted, done, had, had_numbers, hand,
                          insert, last, number, set_key, set_message, since, take, tell)


class Hand(unittest.TestCase):
    # Messages of 28, 20 and 28 bytes with their lengths.
    BEFORE = (begin(0, 0), begin(1, 1), set_key(0, ROOT, b"a", number(1)), set_key(0, ROOT, b"b", MAP),
              set_key(0, ROOT, b"c", number(3)))

    def test_as_numbers(self):
        calls = [0, 0, 0, 0, 2, 1, 1, 0, 0, 0, 1, 1, 1, 97, 1, 3, 10, 0, 2, 20, 10, 0, 2, 20, 10, 0, 2, -1]
        self.assertEqual(answers(calls)[11:], [2, 20, 1, 2, 0, 0, 2, -2, 0])

    def test_two_objects(self):
        given = ask(*self.BEFORE, hand(0, 1), had(1), tell(1), had(0), hand(1, 0), hand(0, 1))
        self.assertEqual(given[5:8], [[76, 3], had_numbers(k0=3), counted(b'{"a":1,"b":{},"c":3}')])
        self.assertEqual(given[8:], [had_numbers(k0=3), [0, 0], [0, 0]])

    def test_to_and_fro(self):
        given = ask(*self.BEFORE, set_key(1, ROOT, b"a", number(9)), hand(0, 1), set_key(1, ROOT, b"d", LIST),
                    hand(1, 0), tell(0), tell(1), had(0), had(1))
        self.assertEqual(given[6:9], [[76, 3], done(4, 1), [48, 2]])
        self.assertEqual(given[9:11], [counted(b'{"a":9,"b":{},"c":3,"d":[]}')] * 2)
        self.assertEqual(given[11:], [had_numbers(k0=3, k1=2)] * 2)

    def test_the_same_object(self):
        for most in (0, 5, INT_MAX):
            given = ask(*self.BEFORE, hand(0, 0, most), had(0), tell(0))
            self.assertEqual(given[5:], [[0, 0], had_numbers(k0=3), counted(b'{"a":1,"b":{},"c":3}')])
        self.assertEqual(last(*self.BEFORE, hand(1, 1)), [0, 0])

    def test_most_below_zero(self):
        for most in (-1, INT_MIN):
            given = ask(*self.BEFORE, hand(0, 1, most), had(1), hand(0, 0, most), hand(1, 0, most))
            self.assertEqual(given[5:], [[-2, 0], had_numbers(), [-2, 0], [-2, 0]])

    def test_most_below_zero_has_nothing_had(self):
        # What waits could be had, but nothing comes.
        waits = set_message(2, 1, 9, (1, 1), b"k", MAP)
        given = ask(*self.BEFORE, take(1, waits), set_key(1, ROOT, b"m", MAP), hand(0, 1, -1), had(1), hand(0, 1, 28),
                    had(1))
        self.assertEqual(given[7:], [[-2, 0], had_numbers(k1=1), [28, 2], had_numbers(k0=1, k1=1, k2=1)])

    def test_most_without_room_for_all(self):
        asked = {0: [0, 0], 27: [0, 0], 28: [28, 1], 47: [28, 1], 48: [48, 2], 75: [48, 2], 76: [76, 3], 77: [76, 3]}
        for most in asked:
            with self.subTest(most=most):
                given = ask(*self.BEFORE, hand(0, 1, most), had(1))
                self.assertEqual(given[5:], [asked[most], had_numbers(k0=asked[most][1])])

    def test_piece_by_piece(self):
        given = ask(*self.BEFORE, hand(0, 1, 28), hand(0, 1, 28), hand(0, 1, 28), hand(0, 1, 28), tell(1))
        self.assertEqual(given[5:], [[28, 1], [20, 1], [28, 1], [0, 0], counted(b'{"a":1,"b":{},"c":3}')])

    def test_what_p_has_had_is_not_given(self):
        given = ask(*self.BEFORE, take(1, set_message(0, 1, 1, ROOT, b"a", number(7))), hand(0, 1), tell(1))
        self.assertEqual(given[5:], [[1], [48, 2], counted(b'{"a":7,"b":{},"c":3}')])

    def test_what_waits_at_p_is_given_and_left_out(self):
        given = ask(*self.BEFORE, take(1, set_message(0, 2, 2, ROOT, b"b", number(7))), hand(0, 1), tell(1))
        self.assertEqual(given[5:], [[0], [76, 3], counted(b'{"a":1,"b":7,"c":3}')])

    def test_ps_own_acts_come_back(self):
        # Begun again, p has had none of its own: they are given, and left out.
        given = ask(*self.BEFORE, hand(0, 1), begin(0, 0), hand(1, 0), had(0), hand(1, 0, 30))
        self.assertEqual(given[7:], [[76, 0], had_numbers(), [28, 0]])

    def test_the_same_keeper_on_both(self):
        given = ask(begin(0, 4), begin(2, 4), set_key(0, ROOT, b"a", MAP), hand(0, 2), had(2), since(2))
        self.assertEqual(given[3:], [[20, 0], had_numbers(), [0]])

    def test_by_way_of_a_third(self):
        given = ask(begin(0, 0), begin(1, 1), begin(2, 2), set_key(0, ROOT, b"l", LIST), hand(0, 1),
                    insert(1, (1, 0), 0, MAP), hand(1, 2), tell(2), had(2), hand(2, 0), tell(0))
        self.assertEqual(given[6:9], [[43, 2], counted(b'{"l":[{}]}'), had_numbers(k0=1, k1=1)])
        self.assertEqual(given[9:], [[23, 1], counted(b'{"l":[{}]}')])

    def test_more_bytes_than_take_has_room_for(self):
        giver = Keeper(0)
        do_set(giver, ROOT, 1, 1, [99], list(COUNTER))
        for _ in range(2999):
            do_add(giver, (1, 0), 1)
        taker = Keeper(1)
        self.assertEqual(do_hand(giver, taker, INT_MAX), [20 + 2999 * 25, -2])
        self.assertEqual((taker.counts, taker.acts, taker.waiting), ([0] * 8, [], {}))
        self.assertEqual(do_hand(giver, taker, 65536), [20 + 2620 * 25, 2621])
        self.assertEqual(do_hand(giver, taker, INT_MAX), [379 * 25, 379])
        self.assertEqual(do_hand(giver, taker, INT_MAX), [0, 0])
