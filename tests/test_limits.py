import unittest

from keptbymany.acts import ADD, SET, Act, Change
from keptbymany.doing import do_add, do_insert, do_put, do_remove, do_set
from keptbymany.keeping import Keeper
from tests.helper import COUNTER, LIST, NOTHING, ROOT, done

MADE = (1, 5)
SUM = (2, 5)


def small_keeper():
    keeper = Keeper(5)
    do_set(keeper, ROOT, 1, 1, [97], list(LIST))
    do_set(keeper, ROOT, 1, 1, [98], list(COUNTER))
    do_insert(keeper, MADE, 0, 1, [3])
    return keeper


def full_keeper():
    keeper = small_keeper()
    while len(keeper.acts) < 4096:
        do_add(keeper, SUM, 1)
    return keeper


def late_keeper(t):
    keeper = small_keeper()
    keeper.have(Act(6, 1, t, Change(SET, ROOT, key=[97], value=[0])))
    return keeper


class Limits(unittest.TestCase):
    def every_call(self, keeper):
        return [
            do_set(keeper, ROOT, 1, 1, [97], [0]),
            do_insert(keeper, MADE, 0, 1, [3]),
            do_insert(keeper, MADE, 1, 1, [3]),
            do_put(keeper, MADE, 0, 1, [3]),
            do_remove(keeper, MADE, 0),
            do_add(keeper, SUM, 1),
        ]

    def test_the_last_that_has_room(self):
        keeper = small_keeper()
        given = [do_add(keeper, SUM, 1) for _ in range(4094)]
        self.assertEqual(given[:-1], [done(t, 5) for t in range(4, 4097)])
        self.assertEqual(given[-2:], [[0, 0, 16, 0, 0, 5], [-4]])

    def test_every_call_when_full(self):
        keeper = full_keeper()
        self.assertEqual(self.every_call(keeper), [[-4]] * 6)
        self.assertEqual(len(keeper.acts), 4096)
        self.assertEqual(keeper.time, 4096)
        self.assertEqual(keeper.document.present(MADE), [(3, 5)])

    def test_other_refusals_come_first_when_full(self):
        keeper = full_keeper()
        self.assertEqual(do_insert(keeper, MADE, 2, 1, [3]), [-2])
        self.assertEqual(do_insert(keeper, MADE, -1, 1, [3]), [-2])
        self.assertEqual(do_put(keeper, MADE, 1, 1, [3]), [-2])
        self.assertEqual(do_remove(keeper, MADE, 1), [-2])
        self.assertEqual(do_remove(keeper, MADE, -1), [-2])
        self.assertEqual(do_set(keeper, ROOT, 0, 1, [], []), [-2])
        self.assertEqual(do_set(keeper, ROOT, 1, 1, [97], [6]), [-2])
        self.assertEqual(do_insert(keeper, MADE, 0, 1, list(NOTHING)), [-2])
        self.assertEqual(do_set(keeper, SUM, 1, 1, [97], [0]), [-3])
        self.assertEqual(do_put(keeper, ROOT, 9, 1, [3]), [-3])
        self.assertEqual(do_add(keeper, MADE, 1), [-3])

    def test_the_last_time(self):
        keeper = late_keeper(4294967295)
        self.assertEqual(self.every_call(keeper), [[-4]] * 6)
        self.assertEqual(len(keeper.acts), 4)
        self.assertEqual(do_remove(keeper, MADE, 1), [-2])
        self.assertEqual(do_remove(keeper, SUM, 0), [-3])

    def test_the_time_before_the_last(self):
        keeper = late_keeper(4294967294)
        self.assertEqual(do_add(keeper, SUM, 1), [0, 255, 255, 255, 255, 5])
        self.assertEqual(do_add(keeper, SUM, 1), [-4])

    def test_the_time_in_four_bytes(self):
        self.assertEqual(do_add(late_keeper(0x04030200), SUM, 1), [0, 1, 2, 3, 4, 5])
        self.assertEqual(do_add(late_keeper(255), SUM, 1), [0, 0, 1, 0, 0, 5])

    def test_a_time_below_its_own_leaves_it(self):
        self.assertEqual(do_add(late_keeper(1), SUM, 1), done(4, 5))

    def test_acts_of_others_are_not_counted_among_its_own(self):
        keeper = late_keeper(9)
        do_add(keeper, SUM, -7)
        act = keeper.acts[-1]
        self.assertEqual((act.keeper, act.n, act.t), (5, 4, 10))
        self.assertEqual((act.change.kind, act.change.target, act.change.amount), (ADD, SUM, -7))
        self.assertEqual(keeper.counts, [0, 0, 0, 0, 0, 4, 1, 0])
