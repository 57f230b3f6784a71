import unittest

from keptbymany.keepers import answers
from tests.helper import (COUNTER, LIST, ROOT, add, ask, begin, had, had_numbers, hand, insert, last, number, put,
                          remove, set_key, set_message, take)


class Had(unittest.TestCase):
    def test_at_first(self):
        self.assertEqual(answers([0, 2, 5, 8, 2]), [1, 0, 9, 0, 0, 0, 0, 0, 0, 0, 0, 0])
        for keeper in range(8):
            self.assertEqual(last(begin(1, keeper), had(1)), had_numbers())

    def test_after_own_acts_of_each_kind(self):
        given = ask(begin(0, 6), set_key(0, ROOT, b"l", LIST), had(0), insert(0, (1, 6), 0, COUNTER), had(0),
                    put(0, (1, 6), 0, number(1)), had(0), add(0, (2, 6), 1), had(0), remove(0, (1, 6), 0), had(0))
        self.assertEqual(given[2::2], [had_numbers(k6=n) for n in range(1, 6)])

    def test_after_refused_acts(self):
        given = ask(begin(0, 0), set_key(0, ROOT, b"l", [6]), add(0, ROOT, 1), remove(0, (1, 0), 0), had(0))
        self.assertEqual(given[-1], had_numbers())

    def test_after_acts_that_came(self):
        messages = [set_message(who, n, n, ROOT, b"a", number(n)) for who in range(8) for n in range(1, who + 2)]
        given = ask(begin(0, 3), set_key(0, ROOT, b"a", number(0)), take(0, *messages), had(0))
        self.assertEqual(given[2:], [[32], [0, 1, 2, 3, 1, 5, 6, 7, 8]])

    def test_what_waits_is_not_counted(self):
        given = ask(begin(0, 3), take(0, set_message(1, 2, 2, ROOT, b"a", number(0))), had(0))
        self.assertEqual(given[-1], had_numbers())

    def test_each_object_by_itself_and_nothing_changes(self):
        given = ask(begin(0, 0), begin(1, 1), begin(2, 2), set_key(1, ROOT, b"a", LIST), hand(1, 2), had(0), had(1),
                    had(2), had(2), had(1))
        self.assertEqual(given[5:], [had_numbers()] + [had_numbers(k1=1)] * 4)

    def test_after_begin_again(self):
        given = ask(begin(0, 0), set_key(0, ROOT, b"a", LIST), begin(0, 0), had(0))
        self.assertEqual(given[-1], had_numbers())
