import unittest

from keptbymany.keepers import answers
from tests.helper import COUNTER, LIST, MAP, ROOT, add, ask, begin, done, insert, last, number, set_key


class Add(unittest.TestCase):
    def test_ordinary_as_numbers(self):
        calls = [0, 2, 7, 1, 2, 0, 0, 1, 1, 1, 99, 1, 5, 5, 2, 1, 7, -3]
        self.assertEqual(answers(calls), [1, 0, 6, 0, 1, 0, 0, 0, 7, 6, 0, 2, 0, 0, 0, 7])

    def test_several_and_the_ends_of_the_range(self):
        amounts = (0, 1, -1, 9223372036854775807, -9223372036854775808, 9223372036854775807)
        given = ask(begin(0, 0), set_key(0, ROOT, b"c", COUNTER), *[add(0, (1, 0), amount) for amount in amounts])
        self.assertEqual(given[2:], [done(t, 0) for t in range(2, 8)])

    def test_to_a_counter_in_a_list(self):
        given = ask(begin(0, 0), set_key(0, ROOT, b"l", LIST), insert(0, (1, 0), 0, COUNTER), add(0, (2, 0), 4))
        self.assertEqual(given[-1], done(3, 0))

    def test_no_counter(self):
        for target in (ROOT, (2, 0), (1, 1), (1, 8), (1, 255), (0, 1), (4294967295, 0)):
            with self.subTest(target=target):
                self.assertEqual(last(begin(0, 0), set_key(0, ROOT, b"c", COUNTER), add(0, target, 1)), [-3])

    def test_of_another_kind(self):
        for value in (MAP, LIST, number(5)):
            self.assertEqual(last(begin(0, 0), set_key(0, ROOT, b"c", value), add(0, (1, 0), 1)), [-3])

    def test_after_a_refusal_nothing_has_changed(self):
        given = ask(begin(0, 0), set_key(0, ROOT, b"c", COUNTER), add(0, ROOT, 1), add(0, (1, 0), 1))
        self.assertEqual(given[2:], [[-3], done(2, 0)])
