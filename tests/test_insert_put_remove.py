import unittest

from keptbymany.keepers import answers
from tests.helper import (COUNTER, INT_MAX, INT_MIN, LIST, MAP, NOTHING, ROOT, ask, begin, done, insert,
                          insert_with_count, last, number, put, put_with_count, remove, set_key)

ONE = number(1)


def with_list(size):
    """A list (1, 6) of so many, with keeper 6 on object 0; the next act's time is size + 2."""
    calls = [begin(0, 6), set_key(0, ROOT, b"l", LIST)]
    return calls + [insert(0, (1, 6), at, ONE) for at in range(size)]


class Insert(unittest.TestCase):
    def test_ordinary_as_numbers(self):
        calls = [0, 0, 3, 1, 0, 0, 0, 1, 1, 1, 108, 1, 4, 2, 0, 1, 3, 0, 3, 3, 2, 1, 65]
        self.assertEqual(answers(calls), [1, 0, 6, 0, 1, 0, 0, 0, 3, 6, 0, 2, 0, 0, 0, 3])

    def test_in_front_in_the_middle_at_the_end(self):
        for at in range(4):
            with self.subTest(at=at):
                self.assertEqual(last(*with_list(3), insert(0, (1, 6), at, ONE)), done(5, 6))

    def test_beyond_the_end(self):
        for size in (0, 1, 3):
            for at in (size + 1, size + 2, INT_MAX):
                with self.subTest(size=size, at=at):
                    self.assertEqual(last(*with_list(size), insert(0, (1, 6), at, ONE)), [-2])

    def test_negative(self):
        for at in (-1, -3, INT_MIN):
            self.assertEqual(last(*with_list(3), insert(0, (1, 6), at, ONE)), [-2])

    def test_wrong_n(self):
        for n in (0, 67, -1, INT_MIN, INT_MAX):
            self.assertEqual(last(*with_list(1), insert_with_count(0, (1, 6), 0, n, [])), [-2])

    def test_nothing_is_refused(self):
        self.assertEqual(last(*with_list(1), insert(0, (1, 6), 0, NOTHING)), [-2])

    def test_no_list(self):
        for target in (ROOT, (2, 6), (9, 6), (1, 5), (1, 255), (0, 6)):
            with self.subTest(target=target):
                self.assertEqual(last(*with_list(1), insert(0, target, 0, ONE)), [-3])

    def test_of_another_kind(self):
        for value in (MAP, COUNTER):
            self.assertEqual(last(begin(0, 6), set_key(0, ROOT, b"l", value), insert(0, (1, 6), 0, ONE)), [-3])

    def test_removed_ones_are_not_counted(self):
        given = ask(
            *with_list(2),
            remove(0, (1, 6), 0),
            insert(0, (1, 6), 2, ONE),
            insert(0, (1, 6), 1, ONE),
            remove(0, (1, 6), 1),
            remove(0, (1, 6), 0),
            insert(0, (1, 6), 1, ONE),
            insert(0, (1, 6), 0, ONE),
        )
        self.assertEqual(given[4:], [done(4, 6), [-2], done(5, 6), done(6, 6), done(7, 6), [-2], done(8, 6)])

    def test_after_refusals_nothing_has_changed(self):
        given = ask(
            *with_list(0),
            insert(0, (1, 6), 1, ONE),
            insert(0, (1, 6), 0, NOTHING),
            insert(0, ROOT, 0, ONE),
            insert(0, (1, 6), 1, ONE),
            insert(0, (1, 6), 0, ONE),
        )
        self.assertEqual(given[2:], [[-2], [-2], [-3], [-2], done(2, 6)])


class Put(unittest.TestCase):
    def test_ordinary_as_numbers(self):
        calls = [0, 0, 3, 1, 0, 0, 0, 1, 1, 1, 108, 1, 4, 2, 0, 1, 3, 0, 1, 1, 3, 3, 0, 1, 3, 0, 1, 1, 5]
        self.assertEqual(answers(calls)[16:], [6, 0, 3, 0, 0, 0, 3])

    def test_every_place(self):
        for at in range(3):
            with self.subTest(at=at):
                self.assertEqual(last(*with_list(3), put(0, (1, 6), at, ONE)), done(5, 6))

    def test_several_leave_the_list_as_long(self):
        given = ask(*with_list(1), *[put(0, (1, 6), 0, ONE)] * 3, put(0, (1, 6), 1, ONE))
        self.assertEqual(given[3:], [done(3, 6), done(4, 6), done(5, 6), [-2]])

    def test_beyond_the_last(self):
        for size in (0, 1, 3):
            for at in (size, size + 1, INT_MAX):
                with self.subTest(size=size, at=at):
                    self.assertEqual(last(*with_list(size), put(0, (1, 6), at, ONE)), [-2])

    def test_negative(self):
        for at in (-1, -3, INT_MIN):
            self.assertEqual(last(*with_list(3), put(0, (1, 6), at, ONE)), [-2])

    def test_wrong_n(self):
        for n in (0, 67, -1, INT_MIN, INT_MAX):
            self.assertEqual(last(*with_list(1), put_with_count(0, (1, 6), 0, n, [])), [-2])

    def test_nothing_is_refused(self):
        self.assertEqual(last(*with_list(1), put(0, (1, 6), 0, NOTHING)), [-2])

    def test_no_list(self):
        for target in (ROOT, (2, 6), (9, 6), (1, 5), (1, 255), (0, 6)):
            with self.subTest(target=target):
                self.assertEqual(last(*with_list(1), put(0, target, 0, ONE)), [-3])

    def test_of_another_kind(self):
        for value in (MAP, COUNTER):
            self.assertEqual(last(begin(0, 6), set_key(0, ROOT, b"l", value), put(0, (1, 6), 0, ONE)), [-3])

    def test_after_refusals_nothing_has_changed(self):
        given = ask(*with_list(1), put(0, (1, 6), 1, ONE), put(0, (1, 6), 0, NOTHING), put(0, ROOT, 0, ONE),
                    put(0, (1, 6), 1, ONE), put(0, (1, 6), 0, ONE))
        self.assertEqual(given[3:], [[-2], [-2], [-3], [-2], done(3, 6)])


class Remove(unittest.TestCase):
    def test_ordinary_as_numbers(self):
        calls = [0, 0, 3, 1, 0, 0, 0, 1, 1, 1, 108, 1, 4, 2, 0, 1, 3, 0, 1, 1, 3, 4, 0, 1, 3, 0]
        self.assertEqual(answers(calls)[16:], [6, 0, 3, 0, 0, 0, 3])

    def test_every_place(self):
        for at in range(3):
            with self.subTest(at=at):
                self.assertEqual(last(*with_list(3), remove(0, (1, 6), at)), done(5, 6))

    def test_until_none_is_there(self):
        given = ask(*with_list(3), remove(0, (1, 6), 2), remove(0, (1, 6), 0), remove(0, (1, 6), 1),
                    remove(0, (1, 6), 0), remove(0, (1, 6), 0))
        self.assertEqual(given[5:], [done(5, 6), done(6, 6), [-2], done(7, 6), [-2]])

    def test_beyond_the_last(self):
        for size in (0, 1, 3):
            for at in (size, size + 1, INT_MAX):
                with self.subTest(size=size, at=at):
                    self.assertEqual(last(*with_list(size), remove(0, (1, 6), at)), [-2])

    def test_negative(self):
        for at in (-1, -3, INT_MIN):
            self.assertEqual(last(*with_list(3), remove(0, (1, 6), at)), [-2])

    def test_no_list(self):
        for target in (ROOT, (2, 6), (9, 6), (1, 5), (1, 255), (0, 6)):
            with self.subTest(target=target):
                self.assertEqual(last(*with_list(1), remove(0, target, 0)), [-3])

    def test_of_another_kind(self):
        for value in (MAP, COUNTER):
            self.assertEqual(last(begin(0, 6), set_key(0, ROOT, b"l", value), remove(0, (1, 6), 0)), [-3])

    def test_an_object_stays_when_its_element_is_removed(self):
        given = ask(*with_list(0), insert(0, (1, 6), 0, LIST), remove(0, (1, 6), 0), insert(0, (2, 6), 0, ONE))
        self.assertEqual(given[-1], done(4, 6))

    def test_after_refusals_nothing_has_changed(self):
        given = ask(*with_list(1), remove(0, (1, 6), 1), remove(0, ROOT, 0), remove(0, (1, 6), 0))
        self.assertEqual(given[3:], [[-2], [-3], done(3, 6)])
