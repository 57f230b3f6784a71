import unittest

from keptbymany.keepers import answers
from tests.helper import INT_MAX, INT_MIN, LIST, MAP, ROOT, add, ask, begin, done, insert, last, number, set_key


class Begin(unittest.TestCase):
    def test_answers_zero_with_its_count(self):
        self.assertEqual(answers([0, 0, 0]), [1, 0])

    def test_every_keeper_on_every_object(self):
        for o in range(3):
            for keeper in range(8):
                with self.subTest(o=o, keeper=keeper):
                    self.assertEqual(ask(begin(o, keeper), set_key(o, ROOT, b"a", MAP)), [[0], done(1, keeper)])

    def test_keepers_out_of_range(self):
        for keeper in (-1, 8, 9, 255, INT_MIN, INT_MAX):
            with self.subTest(keeper=keeper):
                self.assertEqual(ask(begin(0, keeper)), [[-2]])
                self.assertEqual(answers([0, 2, keeper]), [1, -2])

    def test_again_nothing_is_had(self):
        given = ask(
            begin(0, 4),
            set_key(0, ROOT, b"a", LIST),
            insert(0, (1, 4), 0, number(1)),
            begin(0, 4),
            insert(0, (1, 4), 0, number(1)),
            set_key(0, ROOT, b"a", LIST),
            insert(0, (1, 4), 1, number(1)),
            insert(0, (1, 4), 0, number(1)),
        )
        self.assertEqual(given, [[0], done(1, 4), done(2, 4), [0], [-3], done(1, 4), [-2], done(2, 4)])

    def test_again_as_another_keeper(self):
        given = ask(begin(1, 0), set_key(1, ROOT, b"a", MAP), begin(1, 7), set_key(1, ROOT, b"a", MAP))
        self.assertEqual(given, [[0], done(1, 0), [0], done(1, 7)])

    def test_refused_again_leaves_all_as_it_was(self):
        for keeper in (-1, 8):
            given = ask(
                begin(0, 3),
                set_key(0, ROOT, b"a", LIST),
                begin(0, keeper),
                insert(0, (1, 3), 0, number(5)),
            )
            self.assertEqual(given, [[0], done(1, 3), [-2], done(2, 3)])

    def test_three_objects_each_by_itself(self):
        given = ask(
            begin(0, 1),
            begin(1, 1),
            begin(2, 5),
            set_key(0, ROOT, b"a", LIST),
            set_key(0, ROOT, b"b", MAP),
            set_key(2, ROOT, b"a", [5]),
            insert(1, (1, 1), 0, number(0)),
            add(2, (1, 5), 1),
            set_key(1, ROOT, b"a", MAP),
            begin(2, 6),
            insert(0, (1, 1), 0, number(0)),
            set_key(1, (1, 1), b"a", MAP),
            add(2, (1, 5), 1),
        )
        self.assertEqual(given[:7], [[0], [0], [0], done(1, 1), done(2, 1), done(1, 5), [-3]])
        self.assertEqual(given[7:], [done(2, 5), done(1, 1), [0], done(3, 1), done(2, 1), [-3]])

    def test_begin_of_one_object_leaves_the_others(self):
        self.assertEqual(last(begin(0, 0), set_key(0, ROOT, b"a", MAP), begin(1, 0), set_key(0, ROOT, b"b", MAP)),
                         done(2, 0))
