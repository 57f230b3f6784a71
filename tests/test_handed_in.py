import unittest

from keptbymany.keepers import answers
from tests.helper import (COUNTER, LIST, MAP, ROOT, add, begin, had, hand, insert, number, put, remove, row_of, set_key,
                          set_message, set_with_counts, since, take, take_bytes, tell)

CALLS = [
    begin(0, 1), begin(1, 9), begin(1, 2),
    set_key(0, ROOT, b"l", LIST), set_key(1, ROOT, b"c", COUNTER),
    insert(0, (1, 1), 0, MAP), insert(0, (1, 1), 1, number(4)), put(0, (1, 1), 1, LIST), remove(0, (1, 1), 0),
    add(1, (1, 2), -5), add(1, (1, 1), -5), set_with_counts(0, ROOT, 0, 0, [], []), remove(0, (1, 1), 1),
    since(0), since(1, 30, [1] * 8), since(0, -1), tell(0), tell(1, 3), tell(1, -3), had(0), had(1),
    hand(0, 1), hand(1, 0, 20), hand(1, 0), hand(1, 1), hand(0, 1, -1),
    take(0, set_message(5, 2, 9, ROOT, b"w", MAP)), take(0, set_message(5, 1, 8, ROOT, b"v", LIST)),
    take_bytes(1, row_of(set_message(5, 1, 8, ROOT, b"v", LIST)) + [0]), take(1), tell(0), tell(1), had(0), since(1),
]


def flat():
    return [whole for call in CALLS for whole in call]


class Untouchable(list):
    def refuse(self, *given):
        raise AssertionError("what is handed in is changed")

    append = extend = insert = pop = remove = clear = reverse = sort = refuse
    __setitem__ = __delitem__ = __iadd__ = __imul__ = refuse


class HandedIn(unittest.TestCase):
    def test_the_list_is_the_same_afterwards(self):
        handed = flat()
        answers(handed)
        self.assertEqual(handed, flat())

    def test_the_list_is_not_changed_for_a_while_either(self):
        self.assertEqual(answers(Untouchable(flat())), answers(flat()))

    def test_again_it_answers_the_same(self):
        handed = flat()
        first = answers(handed)
        self.assertEqual(answers(handed), first)
        self.assertEqual(answers([0, 0, 1]), [1, 0])
        self.assertEqual(answers(handed), first)

    def test_what_is_given_back_is_its_own(self):
        handed = flat()
        first = answers(handed)
        whole = list(first)
        first.clear()
        self.assertEqual(answers(handed), whole)

    def test_what_is_answered_are_plain_whole_numbers(self):
        given = answers(flat())
        self.assertIs(type(given), list)
        self.assertEqual({type(whole) for whole in given}, {int})

    def test_two_hundred_calls(self):
        handed = begin(0, 0) * 200
        self.assertEqual(answers(handed), [1, 0] * 200)
