"""Which elements are there, and in which order: below the calls, where acts can be had in any order."""

import itertools
import random
import unittest

from keptbymany.acts import ADD, INSERT, PUT, REMOVE, SET, Act, Change
from keptbymany.document import Document
from keptbymany.doing import do_insert, do_put, do_remove, do_set
from keptbymany.keeping import Keeper
from tests.helper import ROOT, number

MADE = (1, 0)
FRONT = (0, 0)
BRING_LIST = Act(0, 1, 1, Change(SET, ROOT, key=[97], value=[4]))


def list_keeper():
    keeper = Keeper(0)
    do_set(keeper, ROOT, 1, 1, [97], [4])
    return keeper


def inserted(t, keeper, before, target=MADE):
    return Act(keeper, 1, t, Change(INSERT, target, element=before, value=number(t)))


def removed(t, keeper, element, target=MADE):
    return Act(keeper, 1, t, Change(REMOVE, target, element=element))


def order_of(acts, target=MADE):
    document = Document()
    for act in [BRING_LIST] + list(acts):
        document.apply(act)
    return document.present(target)


class OwnActs(unittest.TestCase):
    def test_what_each_act_is_behind(self):
        keeper = list_keeper()
        for at in (0, 1, 0, 1, 4):
            do_insert(keeper, MADE, at, 1, [3])
        behind = [act.change.element for act in keeper.acts[1:]]
        self.assertEqual(behind, [FRONT, (2, 0), FRONT, (4, 0), (3, 0)])
        self.assertEqual(keeper.document.present(MADE), [(4, 0), (5, 0), (2, 0), (3, 0), (6, 0)])

    def test_which_one_put_and_remove_mean(self):
        keeper = list_keeper()
        for at in range(4):
            do_insert(keeper, MADE, at, 1, [3])
        do_remove(keeper, MADE, 1)
        do_put(keeper, MADE, 1, 1, [5])
        do_put(keeper, MADE, 0, 1, [5])
        do_remove(keeper, MADE, 2)
        self.assertEqual([act.change.element for act in keeper.acts[5:]], [(3, 0), (4, 0), (2, 0), (5, 0)])
        self.assertEqual(keeper.document.present(MADE), [(2, 0), (4, 0)])

    def test_inserts_behind_removed_ones(self):
        keeper = list_keeper()
        for at in range(3):
            do_insert(keeper, MADE, at, 1, [3])
        do_remove(keeper, MADE, 1)
        do_insert(keeper, MADE, 1, 1, [3])
        do_insert(keeper, MADE, 3, 1, [3])
        self.assertEqual(keeper.acts[-2].change.element, (2, 0))
        self.assertEqual(keeper.document.present(MADE), [(2, 0), (6, 0), (4, 0), (7, 0)])

    def test_all_removed_and_filled_again(self):
        keeper = list_keeper()
        for at in range(3):
            do_insert(keeper, MADE, at, 1, [3])
        for _ in range(3):
            do_remove(keeper, MADE, 0)
        self.assertEqual(keeper.document.present(MADE), [])
        do_insert(keeper, MADE, 0, 1, [3])
        do_insert(keeper, MADE, 1, 1, [3])
        self.assertEqual(keeper.document.present(MADE), [(8, 0), (9, 0)])

    def test_two_lists_each_by_itself(self):
        keeper = list_keeper()
        do_insert(keeper, MADE, 0, 1, [4])
        do_insert(keeper, (2, 0), 0, 1, [3])
        do_insert(keeper, MADE, 1, 1, [3])
        do_remove(keeper, MADE, 0)
        self.assertEqual(keeper.document.present(MADE), [(4, 0)])
        self.assertEqual(keeper.document.present((2, 0)), [(3, 0)])

    def test_what_an_act_keeps(self):
        keeper = list_keeper()
        do_insert(keeper, MADE, 0, 9, number(7))
        do_put(keeper, MADE, 0, 1, [3])
        do_remove(keeper, MADE, 0)
        kept = [(act.change.kind, act.change.key, act.change.value, act.n) for act in keeper.acts]
        self.assertEqual(kept, [(SET, [97], [4], 1), (INSERT, None, number(7), 2), (PUT, None, [3], 3),
                                (REMOVE, None, None, 4)])

    def test_the_kinds_of_acts(self):
        self.assertEqual((SET, INSERT, PUT, REMOVE, ADD), (1, 2, 3, 4, 5))

    def test_as_a_plain_list_would_be(self):
        for seed in range(20):
            chance = random.Random(seed)
            keeper = list_keeper()
            plain = []
            for t in range(2, 150):
                if plain and chance.randrange(3) == 0:
                    at = chance.randrange(len(plain))
                    do_remove(keeper, MADE, at)
                    plain.pop(at)
                else:
                    at = chance.randrange(len(plain) + 1)
                    do_insert(keeper, MADE, at, 1, [3])
                    plain.insert(at, (t, 0))
                self.assertEqual(keeper.document.present(MADE), plain)

    def test_a_chain_deeper_than_calls_may_be(self):
        acts = [inserted(t, 0, (t - 1, 0) if t > 2 else FRONT) for t in range(2, 4097)]
        self.assertEqual(order_of(acts), [(t, 0) for t in range(2, 4097)])


class ActsOfMany(unittest.TestCase):
    def test_in_front_the_greater_id_first(self):
        acts = [inserted(2, 1, FRONT), inserted(3, 0, FRONT), inserted(2, 7, FRONT), inserted(2, 3, FRONT)]
        for order in itertools.permutations(acts):
            self.assertEqual(order_of(order), [(3, 0), (2, 7), (2, 3), (2, 1)])

    def test_behind_one_with_all_that_is_behind_each(self):
        acts = [
            inserted(2, 1, FRONT),
            inserted(3, 1, (2, 1)),
            inserted(4, 2, (2, 1)),
            inserted(5, 1, (3, 1)),
            inserted(6, 3, FRONT),
            inserted(7, 2, (4, 2)),
            inserted(7, 4, (4, 2)),
        ]
        self.assertEqual(order_of(acts), [(6, 3), (2, 1), (4, 2), (7, 4), (7, 2), (3, 1), (5, 1)])

    def test_behind_one_of_a_greater_id(self):
        acts = [inserted(9, 1, FRONT), inserted(5, 2, FRONT), inserted(2, 3, (9, 1)), inserted(7, 4, (5, 2))]
        self.assertEqual(order_of(acts), [(9, 1), (2, 3), (5, 2), (7, 4)])

    def test_the_same_in_whatever_order_they_came(self):
        first = [inserted(2, 1, FRONT), inserted(2, 2, FRONT)]
        later = [inserted(3, 1, (2, 1)), inserted(3, 2, (2, 1)), inserted(3, 3, (2, 2)), removed(4, 1, (2, 1))]
        for order in itertools.permutations(later):
            for start in (first, first[::-1]):
                self.assertEqual(order_of(start + list(order)), [(2, 2), (3, 3), (3, 2), (3, 1)])

    def test_removed_twice(self):
        acts = [inserted(2, 1, FRONT), inserted(3, 1, FRONT), removed(4, 1, (2, 1)), removed(4, 2, (2, 1))]
        self.assertEqual(order_of(acts), [(3, 1)])

    def test_behind_what_is_no_element_makes_nothing(self):
        acts = [inserted(2, 1, MADE), inserted(3, 1, (2, 1)), inserted(4, 1, FRONT), removed(5, 1, MADE),
                removed(6, 1, FRONT)]
        self.assertEqual(order_of(acts), [(4, 1)])

    def test_behind_an_element_of_another_list_makes_nothing(self):
        other = Act(0, 2, 2, Change(SET, ROOT, key=[98], value=[4]))
        acts = [other, inserted(3, 0, FRONT), inserted(4, 0, (3, 0), (2, 0)), inserted(5, 0, FRONT, (2, 0)),
                removed(6, 0, (3, 0), (2, 0))]
        self.assertEqual(order_of(acts), [(3, 0)])
        self.assertEqual(order_of(acts, (2, 0)), [(5, 0)])

    def test_on_another_kind_makes_nothing_but_the_object_it_brings(self):
        document = Document()
        for act in (BRING_LIST, inserted(2, 1, FRONT, ROOT),
                    Act(1, 2, 3, Change(INSERT, ROOT, element=FRONT, value=[4])),
                    Act(1, 3, 4, Change(SET, MADE, key=[97], value=[5])), Act(1, 4, 5, Change(ADD, MADE, amount=1)),
                    Act(1, 5, 6, Change(PUT, MADE, element=(2, 1), value=[3]))):
            document.apply(act)
        self.assertEqual(document.present(MADE), [])
        self.assertEqual([document.kind_of((t, 1)) for t in range(2, 7)], [None, 4, 5, None, 3])
        self.assertEqual(document.kind_of(ROOT), 3)
