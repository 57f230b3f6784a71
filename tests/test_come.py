"""Acts that come: what is left out, what waits, and when it is had."""

import itertools
import random
import unittest

from keptbymany.exchanging import do_since, do_take
from keptbymany.keeping import Keeper
from keptbymany.telling import tell_document
from tests.helper import (COUNTER, INT_MAX, LIST, MAP, NOTHING, ROOT, add_message, ask, begin, counted, done, had,
                          had_numbers, hand, insert, insert_message, number, put_message, remove,
                          remove_message, row_of, set_key, set_message, since, take, tell, text)


def steps(keeper, count, start=1):
    """So many acts of one keeper that make nothing."""
    return [remove_message(keeper, n, n, ROOT, ROOT) for n in range(start, start + count)]


class LeftOut(unittest.TestCase):
    def test_of_itself(self):
        for keeper in range(8):
            given = ask(begin(0, keeper), take(0, *[set_message(who, 1, 1, ROOT, [97 + who], MAP) for who in range(8)]),
                        had(0))
            self.assertEqual(given[1:], [[7], [0] + [int(who != keeper) for who in range(8)]])

    def test_of_itself_and_next_or_later(self):
        own = [set_message(4, n, n, ROOT, b"x", number(n)) for n in range(1, 4)]
        given = ask(begin(0, 4), take(0, *own), tell(0), set_key(0, ROOT, b"y", MAP), take(0, *own), had(0), tell(0),
                    set_key(0, ROOT, b"z", MAP))
        self.assertEqual(given[1:3], [[0], counted(b"{}")])
        self.assertEqual(given[4:], [[0], had_numbers(k4=1), counted(b'{"y":{}}'), done(2, 4)])

    def test_of_a_number_that_was_had(self):
        first = set_message(2, 1, 1, ROOT, b"a", number(1))
        second = set_message(2, 2, 2, ROOT, b"a", number(2))
        other = set_message(2, 1, 9, ROOT, b"a", number(3))
        given = ask(begin(0, 0), take(0, first, first), take(0, first), take(0, second, first, second, other), tell(0),
                    had(0), set_key(0, ROOT, b"b", MAP))
        self.assertEqual(given[1:], [[1], [0], [1], counted(b'{"a":2}'), had_numbers(k2=2), done(3, 0)])

    def test_what_was_had_takes_no_room_to_wait(self):
        messages = steps(1, 301)
        given = ask(begin(0, 0), take(0, *messages[:300]), take(0, *messages[:300]), take(0, messages[300]), had(0))
        self.assertEqual(given[1:], [[300], [0], [1], had_numbers(k1=301)])

    def test_what_was_had_or_is_of_itself_has_nothing_had(self):
        # Its own act makes the one that waits ready.
        ready = set_message(2, 1, 9, (2, 0), b"k", MAP)
        given = ask(begin(0, 0), take(0, *steps(1, 1)), take(0, ready), set_key(0, ROOT, b"m", MAP),
                    take(0, *steps(1, 1)), take(0, *steps(0, 3)), had(0), take(0, *steps(1, 1, 2)), tell(0))
        self.assertEqual(given[2:7], [[0], done(2, 0), [0], [0], had_numbers(k0=1, k1=1)])
        self.assertEqual(given[7:], [[2], counted(b'{"m":{"k":{}}}')])

    def test_of_a_number_that_waits_the_first_one_stays(self):
        first = set_message(2, 1, 1, ROOT, b"a", number(1))
        waits = set_message(2, 2, 2, ROOT, b"b", number(2))
        other = set_message(2, 2, 3, ROOT, b"c", number(3))
        given = ask(begin(0, 0), take(0, waits, other, waits), take(0, other), had(0), take(0, first), tell(0), had(0))
        self.assertEqual(given[1:], [[0], [0], had_numbers(), [2], counted(b'{"a":1,"b":2}'), had_numbers(k2=2)])

    def test_the_same_number_of_another_keeper_is_another(self):
        given = ask(begin(0, 0), take(0, *[set_message(who, 2, 2, ROOT, [97 + who], MAP) for who in range(1, 8)]),
                    take(0, *steps(1, 1), *steps(7, 1)), had(0), tell(0))
        self.assertEqual(given[1:], [[0], [4], had_numbers(k1=2, k7=2), counted(b'{"b":{},"h":{}}')])


class Waits(unittest.TestCase):
    def test_behind_a_gap_in_its_keepers_numbers(self):
        acts = [set_message(3, n, n, ROOT, [96 + n], number(n)) for n in range(1, 5)]
        given = ask(begin(0, 0), take(0, acts[0], acts[2]), take(0, acts[3]), had(0), tell(0), take(0, acts[1]), had(0),
                    tell(0))
        self.assertEqual(given[1:5], [[1], [0], had_numbers(k3=1), counted(b'{"a":1}')])
        self.assertEqual(given[5:], [[3], had_numbers(k3=4), counted(b'{"a":1,"b":2,"c":3,"d":4}')])

    def test_far_numbers(self):
        given = ask(begin(0, 0), take(0, set_message(3, 4294967295, 1, ROOT, b"a", MAP)),
                    take(0, set_message(3, 2, 1, ROOT, b"a", MAP)), had(0))
        self.assertEqual(given[1:], [[0], [0], had_numbers()])

    def test_a_time_that_is_not_above_its_keepers(self):
        for t in (1, 6, 7):
            with self.subTest(t=t):
                given = ask(begin(0, 0), take(0, set_message(3, 1, 7, ROOT, b"a", MAP)),
                            take(0, set_message(3, 2, t, ROOT, b"b", MAP)), had(0), tell(0),
                            take(0, set_message(3, 2, 8, ROOT, b"c", MAP)),
                            take(0, set_message(3, 3, 9, ROOT, b"d", MAP)),
                            had(0), tell(0))
                self.assertEqual(given[2:5], [[0], had_numbers(k3=1), counted(b'{"a":{}}')])
                self.assertEqual(given[5:], [[0], [0], had_numbers(k3=1), counted(b'{"a":{}}')])

    def test_a_time_just_above_its_keepers(self):
        given = ask(begin(0, 0), take(0, set_message(3, 1, 7, ROOT, b"a", MAP), set_message(3, 2, 8, ROOT, b"b", MAP)))
        self.assertEqual(given[1], [2])

    def test_a_time_not_above_other_keepers_is_had(self):
        given = ask(begin(0, 0), take(0, set_message(3, 1, 70, ROOT, b"a", number(3))),
                    take(0, set_message(4, 1, 1, ROOT, b"a", number(4))), set_key(0, ROOT, b"b", number(0)),
                    take(0, set_message(4, 2, 70, ROOT, b"a", number(5))), tell(0))
        self.assertEqual(given[1:], [[1], [1], done(71, 0), [1], counted(b'{"a":5,"b":0}')])

    def test_an_object_that_was_not_had_yet(self):
        brings = set_message(3, 1, 5, ROOT, b"l", LIST)
        on_it = [set_message(4, 1, 1, (5, 3), b"k", MAP), insert_message(4, 1, 1, (5, 3), ROOT, MAP),
                 put_message(4, 1, 1, (5, 3), ROOT, MAP), remove_message(4, 1, 1, (5, 3), ROOT),
                 add_message(4, 1, 1, (5, 3), 2)]
        for one in on_it:
            with self.subTest(kind=one[0]):
                given = ask(begin(0, 0), take(0, one), had(0), take(0, brings), had(0), tell(0))
                self.assertEqual(given[1:5], [[0], had_numbers(), [2], had_numbers(k3=1, k4=1)])
                self.assertEqual(given[5], counted(b'{"l":[{}]}' if one[0] == 2 else b'{"l":[]}'))

    def test_an_element_that_was_not_had_yet(self):
        brings = set_message(3, 1, 1, ROOT, b"l", LIST)
        element = insert_message(3, 2, 2, (1, 3), ROOT, number(0))
        on_it = {b"[0,7]": insert_message(4, 1, 5, (1, 3), (2, 3), number(7)),
                 b"[7]": put_message(4, 1, 5, (1, 3), (2, 3), number(7)),
                 b"[]": remove_message(4, 1, 5, (1, 3), (2, 3))}
        for asked in on_it:
            given = ask(begin(0, 0), take(0, brings, on_it[asked]), had(0), tell(0), take(0, element), had(0), tell(0))
            self.assertEqual(given[1:4], [[1], had_numbers(k3=1), counted(b'{"l":[]}')])
            self.assertEqual(given[4:], [[2], had_numbers(k3=2, k4=1), counted(b'{"l":' + asked + b"}")])

    def test_ids_that_never_will_be_had(self):
        ids = ((0, 1), (0, 8), (1, 8), (1, 255), (4294967295, 255), (5, 4), (1, 3), (2, 0))
        for never in ids:
            for one in (set_message(4, 1, 5, never, b"k", MAP), insert_message(4, 1, 5, ROOT, never, MAP),
                        put_message(4, 1, 5, ROOT, never, MAP), remove_message(4, 1, 5, ROOT, never),
                        remove_message(4, 1, 5, never, ROOT), add_message(4, 1, 5, never, 1)):
                with self.subTest(never=never, kind=one[0]):
                    given = ask(begin(0, 0), set_key(0, ROOT, b"a", MAP), take(0, one, *steps(1, 3)), had(0))
                    self.assertEqual(given[2:], [[3], had_numbers(k0=1, k1=3)])

    def test_both_ids_are_waited_for(self):
        given = ask(begin(0, 0), take(0, insert_message(4, 1, 9, (1, 1), (1, 2), MAP)),
                    take(0, set_message(1, 1, 1, ROOT, b"l", LIST)), had(0), take(0, *steps(2, 1)), had(0))
        self.assertEqual(given[1:], [[0], [1], had_numbers(k1=1), [1 + 1], had_numbers(k1=1, k2=1, k4=1)])

    def test_the_front_and_the_root_are_not_waited_for(self):
        messages = [put_message(1, 1, 1, ROOT, ROOT, MAP), insert_message(2, 1, 1, ROOT, ROOT, MAP),
                    remove_message(3, 1, 1, ROOT, ROOT), add_message(4, 1, 1, ROOT, 1)]
        given = ask(begin(0, 0), take(0, *messages))
        self.assertEqual(given[1], [4])

    def test_ids_of_acts_that_bring_no_object_are_had_too(self):
        given = ask(begin(0, 0), take(0, add_message(2, 1, 1, (3, 1), 1)), take(0, *steps(1, 3)), had(0))
        self.assertEqual(given[1:], [[0], [4], had_numbers(k1=3, k2=1)])

    def test_ids_of_its_own_acts(self):
        given = ask(begin(0, 0), set_key(0, ROOT, b"m", MAP), take(0, set_message(1, 1, 2, (1, 0), b"k", MAP)), tell(0))
        self.assertEqual(given[2:], [[1], counted(b'{"m":{"k":{}}}')])

    def test_its_own_act_has_nothing_had(self):
        # Those that wait are had behind one that came and was not left out, not behind what it does by itself.
        waits = set_message(1, 1, 2, (1, 0), b"k", MAP)
        given = ask(begin(0, 0), take(0, waits), set_key(0, ROOT, b"m", MAP), had(0), take(0, waits), take(0),
                    had(0), tell(0), take(0, *steps(2, 1)), had(0), tell(0))
        self.assertEqual(given[1:6], [[0], done(1, 0), had_numbers(k0=1), [0], [0]])
        self.assertEqual(given[6:8], [had_numbers(k0=1), counted(b'{"m":{}}')])
        self.assertEqual(given[8:], [[2], had_numbers(k0=1, k1=1, k2=1), counted(b'{"m":{"k":{}}}')])

    def test_one_that_only_waits_has_others_had_too(self):
        given = ask(begin(0, 0), take(0, set_message(1, 1, 2, (1, 0), b"k", MAP)), set_key(0, ROOT, b"m", MAP),
                    take(0, *steps(2, 1, 2)), had(0))
        self.assertEqual(given[3:], [[1], had_numbers(k0=1, k1=1)])


class Order(unittest.TestCase):
    def test_several_are_had_at_once_in_the_order_in_which_they_wait(self):
        lacking = set_message(1, 1, 1, ROOT, b"m", MAP)
        waiting = [set_message(who, 1, 9, (1, 1), [97 + who], number(who)) for who in (5, 2, 7, 3)]
        given = ask(begin(0, 0), take(0, *waiting), take(0, lacking), since(0))
        self.assertEqual(given[1:], [[0], [5], counted(row_of(lacking, *waiting))])

    def test_each_time_the_first_that_can_be_had(self):
        # Had in one go from the front on, the second of keeper 3 would come behind the act of keeper 4.
        second = set_message(3, 2, 9, ROOT, b"b", MAP)
        first = set_message(3, 1, 8, (1, 1), b"a", MAP)
        other = set_message(4, 1, 8, (1, 1), b"c", MAP)
        lacking = set_message(1, 1, 1, ROOT, b"m", MAP)
        given = ask(begin(0, 0), take(0, second, first, other), take(0, lacking), since(0))
        self.assertEqual(given[1:], [[0], [4], counted(row_of(lacking, first, second, other))])

    def test_a_chain_that_waits_backwards(self):
        messages = steps(6, 200)
        given = ask(begin(0, 0), take(0, *reversed(messages[1:])), had(0), take(0, messages[0]), had(0),
                    since(0, INT_MAX, [0] * 8))
        self.assertEqual(given[1:5], [[0], had_numbers(), [200], had_numbers(k6=200)])
        self.assertEqual(given[5], counted(row_of(*messages)))

    def test_had_as_soon_as_they_can_be(self):
        messages = [set_message(1, 1, 1, ROOT, b"a", LIST), set_message(2, 2, 2, ROOT, b"b", MAP),
                    set_message(2, 1, 1, ROOT, b"c", MAP), set_message(3, 1, 1, ROOT, b"d", MAP)]
        given = ask(begin(0, 0), take(0, *messages), since(0))
        asked = [messages[0], messages[2], messages[1], messages[3]]
        self.assertEqual(given[1:], [[4], counted(row_of(*asked))])

    ACTS = (
        set_message(1, 1, 1, ROOT, b"l", LIST),
        insert_message(1, 2, 2, (1, 1), ROOT, number(1)),
        insert_message(2, 1, 3, (1, 1), (2, 1), COUNTER),
        insert_message(3, 1, 3, (1, 1), (2, 1), text(b"z")),
        put_message(3, 2, 4, (1, 1), (2, 1), MAP),
        add_message(1, 3, 5, (3, 2), 5),
        remove_message(2, 2, 5, (1, 1), (3, 3)),
    )
    ASKED = b'{"l":[{},#5]}'

    def test_the_same_acts_in_every_order(self):
        for order in itertools.permutations(self.ACTS):
            keeper = Keeper(0)
            do_take(keeper, row_of(*order))
            self.assertEqual(tell_document(keeper.document), list(self.ASKED))
            self.assertEqual((keeper.counts, keeper.waiting), ([0, 3, 2, 2, 0, 0, 0, 0], {}))

    def test_the_same_acts_in_other_orders_and_doubled(self):
        for seed in range(40):
            chance = random.Random(seed)
            messages = list(self.ACTS) * 3
            chance.shuffle(messages)
            calls = [begin(0, 0)]
            while messages:
                size = chance.randrange(1, 6)
                calls.append(take(0, *messages[:size]))
                messages = messages[size:]
            given = ask(*calls, tell(0), had(0))
            self.assertEqual(given[-2:], [counted(self.ASKED), had_numbers(k1=3, k2=2, k3=2)])
            self.assertEqual(sum(answer[0] for answer in given[1:-2]), 7)

    def test_own_acts_and_what_came_on_three_objects(self):
        given = ask(
            begin(0, 0), begin(1, 1), begin(2, 2),
            set_key(0, ROOT, b"l", LIST), hand(0, 1), hand(0, 2),
            insert(0, (1, 0), 0, number(0)), insert(1, (1, 0), 0, number(1)), insert(2, (1, 0), 0, number(2)),
            hand(2, 0), hand(1, 2), hand(0, 1), hand(0, 2), hand(1, 0),
            tell(0), tell(1), tell(2),
        )
        self.assertEqual(given[-3:], [counted(b'{"l":[2,1,0]}')] * 3)


class Limits(unittest.TestCase):
    def test_as_many_as_may_wait(self):
        messages = steps(1, 257)
        given = ask(begin(0, 0), take(0, *messages[1:]), had(0), take(0, messages[0]), had(0))
        # 256 wait: the lacking one is left out, though it could have been had.
        self.assertEqual(given[1:], [[0], had_numbers(), [0], had_numbers()])

    def test_one_less_waits(self):
        messages = steps(1, 257)
        given = ask(begin(0, 0), take(0, *messages[1:256]), take(0, messages[0]), had(0),
                    take(0, messages[256]), had(0))
        self.assertEqual(given[1:], [[0], [256], had_numbers(k1=256), [1], had_numbers(k1=257)])

    def test_a_further_one_is_left_out_for_good(self):
        waiting = steps(1, 255, 2)
        given = ask(begin(0, 0), take(0, *waiting, *steps(2, 1, 2)), take(0, *steps(3, 1)), take(0, *steps(1, 1)),
                    had(0), since(0))
        self.assertEqual(given[1:], [[0], [0], [0], had_numbers(), [0]])

    def test_the_last_that_has_room_to_wait_is_had(self):
        given = ask(begin(0, 0), take(0, *steps(1, 255, 2)), take(0, set_message(3, 1, 1, ROOT, b"a", NOTHING)), had(0),
                    take(0, *steps(1, 1)), had(0))
        self.assertEqual(given[1:], [[0], [1], had_numbers(k3=1), [256], had_numbers(k1=256, k3=1)])

    def test_left_out_ones_have_nothing_had(self):
        # Its own act makes the first that waits ready, but of those that come each is left out.
        ready = set_message(2, 1, 9, (1, 0), b"k", MAP)
        given = ask(begin(0, 0), take(0, ready, *steps(1, 255, 2)), set_key(0, ROOT, b"m", MAP), take(0, *steps(1, 1)),
                    take(0, *steps(3, 1)), had(0), tell(0))
        self.assertEqual(given[1:], [[0], done(1, 0), [0], [0], had_numbers(k0=1), counted(b'{"m":{}}')])

    def filled(self, count):
        keeper = Keeper(0)
        self.assertEqual(do_take(keeper, row_of(*steps(1, 2000))), [2000])
        self.assertEqual(do_take(keeper, row_of(*steps(1, count - 2000, 2001))), [count - 2000])
        return keeper

    def test_acts_had_and_no_more(self):
        keeper = self.filled(4094)
        self.assertEqual(do_take(keeper, row_of(*steps(2, 5))), [2])
        self.assertEqual((len(keeper.acts), keeper.counts[:3]), (4096, [0, 4094, 2]))
        self.assertEqual(do_take(keeper, row_of(*steps(2, 5), *steps(3, 1))), [0])
        self.assertEqual((len(keeper.acts), keeper.counts[:4]), (4096, [0, 4094, 2, 0]))
        self.assertEqual(do_since(keeper, INT_MAX, [0, 4094, 0, 0, 0, 0, 0, 0]), counted(row_of(*steps(2, 2))))

    def test_acts_wait_when_no_room_is_left(self):
        keeper = self.filled(4096)
        self.assertEqual(do_take(keeper, row_of(*steps(2, 300))), [0])
        self.assertEqual(list(keeper.waiting), [(2, n) for n in range(1, 257)])

    def test_several_that_wait_have_room_for_some(self):
        keeper = self.filled(4093)
        self.assertEqual(do_take(keeper, row_of(*steps(2, 9, 2))), [0])
        self.assertEqual(do_take(keeper, row_of(*steps(2, 1))), [3])
        self.assertEqual((len(keeper.acts), keeper.counts[2]), (4096, 3))


class BegunAgain(unittest.TestCase):
    def test_of_an_object_that_has_acts_that_wait(self):
        acts = [set_message(2, n, n, ROOT, [96 + n], MAP) for n in (1, 2, 3)]
        for keeper in (0, 1):
            given = ask(begin(0, 0), take(0, acts[1], acts[2]), begin(0, keeper), take(0, acts[0]), had(0), tell(0))
            self.assertEqual(given[2:], [[0], [1], had_numbers(k2=1), counted(b'{"a":{}}')])

    def test_all_room_to_wait_is_there_again(self):
        given = ask(begin(0, 0), take(0, *steps(1, 256, 2)), take(0, *steps(1, 1)), begin(0, 0), take(0, *steps(1, 1)))
        self.assertEqual(given[1:], [[0], [0], [0], [1]])

    def test_refused_leaves_what_waits(self):
        given = ask(begin(0, 0), take(0, *steps(2, 3, 2)), begin(0, 8), begin(0, -1), take(0, *steps(2, 1)), had(0))
        self.assertEqual(given[1:], [[0], [-2], [-2], [4], had_numbers(k2=4)])

    def test_the_times_of_each_keeper_begin_anew(self):
        given = ask(begin(0, 0), take(0, set_message(2, 1, 9, ROOT, b"a", MAP)), begin(0, 0),
                    take(0, set_message(2, 1, 3, ROOT, b"a", MAP)),
                    take(0, remove_message(3, 1, 1, (9, 2), ROOT)), had(0))
        self.assertEqual(given[2:], [[0], [1], [0], had_numbers(k2=1)])

    def test_what_it_did_before_comes_back_from_none(self):
        given = ask(begin(0, 0), begin(1, 1), set_key(0, ROOT, b"a", LIST), hand(0, 1), insert(1, (1, 0), 0, MAP),
                    begin(0, 0), hand(1, 0), had(0), set_key(0, ROOT, b"b", COUNTER), hand(1, 0), had(0), tell(0))
        self.assertEqual(given[6][1:], [0])
        self.assertEqual(given[7:9], [had_numbers(), done(1, 0)])
        # The insert still waits, and the own act that it tells now is another one: nobody has it had.
        self.assertEqual(given[9:], [[23, 0], had_numbers(k0=1), counted(b'{"b":#0}')])

    def test_two_objects_for_the_same_keeper(self):
        given = ask(
            begin(0, 3), begin(1, 3), begin(2, 5),
            set_key(0, ROOT, b"a", number(1)), set_key(1, ROOT, b"a", number(2)), set_key(1, ROOT, b"b", number(3)),
            hand(0, 1), hand(1, 0), tell(0), tell(1),
            hand(0, 2), hand(1, 2), tell(2), had(2),
        )
        self.assertEqual(given[6:8], [[0, 0], [28, 0]])
        self.assertEqual(given[8:10], [counted(b'{"a":1}'), counted(b'{"a":2,"b":3}')])
        self.assertEqual(given[10:], [[28, 1], [28, 1], counted(b'{"a":1,"b":3}'), had_numbers(k3=2)])

    def test_removed_by_one_and_changed_by_another(self):
        given = ask(begin(0, 0), begin(1, 1), set_key(0, ROOT, b"l", LIST), insert(0, (1, 0), 0, MAP), hand(0, 1),
                    remove(0, (1, 0), 0), set_key(1, (2, 0), b"k", MAP), insert(1, (1, 0), 1, number(8)),
                    hand(0, 1), hand(1, 0), tell(0), tell(1))
        self.assertEqual(given[-2:], [counted(b'{"l":[8]}')] * 2)
