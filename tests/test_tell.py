import itertools
import random
import unittest

from keptbymany.doing import do_insert, do_set
from keptbymany.exchanging import do_take
from keptbymany.keepers import answers
from keptbymany.keeping import Keeper
from keptbymany.telling import do_tell, tell_document
from tests.helper import (COUNTER, INT_MAX, INT_MIN, LIST, MAP, NOTHING, ROOT, add, add_message, ask, begin, counted,
                          done, had, insert, insert_message, last, number, put, put_message, remove, remove_message,
                          row_of, set_key, set_message, take, tell, text)

MOST = 9223372036854775807
LEAST = -9223372036854775808


def after(*calls):
    """The document of object 0, which is keeper 0, behind these calls."""
    return told(ask(begin(0, 0), *calls, tell(0))[-1])


def told(answer):
    if answer[0] != len(answer) - 1:
        raise AssertionError("the count does not fit the bytes")
    return bytes(answer[1:])


class Most(unittest.TestCase):
    BEFORE = (begin(0, 0), set_key(0, ROOT, b"key", text(b"value")))
    ASKED = b'{"key":"value"}'

    def test_as_numbers(self):
        calls = [0, 0, 7, 1, 0, 0, 0, 1, 1, 1, 97, 1, 5, 9, 0, 8, 9, 0, 7, 9, 0, -1]
        self.assertEqual(answers(calls)[9:], [9, 8, 123, 34, 97, 34, 58, 35, 48, 125, 1, -1, 1, -2])

    def test_below_zero(self):
        for most in (-1, -2, INT_MIN):
            self.assertEqual(last(*self.BEFORE, tell(0, most)), [-2])
            self.assertEqual(last(begin(0, 0), tell(0, most)), [-2])

    def test_one_less_than_it_has_and_just_as_many(self):
        size = len(self.ASKED)
        for most in (0, 1, size - 1):
            self.assertEqual(last(*self.BEFORE, tell(0, most)), [-1])
        for most in (size, size + 1, INT_MAX):
            self.assertEqual(last(*self.BEFORE, tell(0, most)), counted(self.ASKED))

    def test_an_empty_root(self):
        self.assertEqual(answers([0, 0, 0, 9, 0, 2]), [1, 0, 3, 2, 123, 125])
        given = ask(begin(0, 0), tell(0, 0), tell(0, 1), tell(0, 2), tell(0, 3))
        self.assertEqual(given[1:], [[-1], [-1], [2, 123, 125], [2, 123, 125]])

    def test_every_byte_counts(self):
        given = ask(begin(0, 0), set_key(0, ROOT, b'"', text(b"\\\xff")), tell(0, 11), tell(0, 12))
        self.assertEqual(given[2:], [[-1], [12, 123, 34, 92, 34, 34, 58, 34, 92, 92, 255, 34, 125]])

    def test_nothing_changes(self):
        given = ask(*self.BEFORE, tell(0), tell(0, -1), tell(0, 3), tell(0), had(0), set_key(0, ROOT, b"a", MAP))
        self.assertEqual(given[2], given[5])
        self.assertEqual(given[6:], [[0, 1, 0, 0, 0, 0, 0, 0, 0], done(2, 0)])


class Values(unittest.TestCase):
    def test_each_in_a_map_and_in_a_list(self):
        values = {b"0": number(0), b"-1": number(-1), b"10": number(10), b"-9223372036854775808": number(LEAST),
                  b"9223372036854775807": number(MOST), b'""': text(b""), b'"0"': text(b"0"), b"{}": MAP, b"[]": LIST,
                  b"#0": COUNTER, b'"' + b"x" * 64 + b'"': text(b"x" * 64)}
        for asked in values:
            with self.subTest(asked):
                self.assertEqual(after(set_key(0, ROOT, b"a", values[asked])), b'{"a":' + asked + b"}")
                self.assertEqual(after(set_key(0, ROOT, b"a", LIST), insert(0, (1, 0), 0, values[asked])),
                                 b'{"a":[' + asked + b"]}")
                self.assertEqual(after(set_key(0, ROOT, b"a", LIST), insert(0, (1, 0), 0, number(4)),
                                       put(0, (1, 0), 0, values[asked])),
                                 b'{"a":[' + asked + b"]}")

    def test_each_byte_of_a_number(self):
        for whole in (255, 256, 65536, 2 ** 31, 2 ** 32, 2 ** 40 + 3, 2 ** 56, 2 ** 62 + 1, -256, -(2 ** 40)):
            self.assertEqual(after(set_key(0, ROOT, b"a", number(whole))), b'{"a":' + str(whole).encode() + b"}")

    def test_a_text_with_signs(self):
        self.assertEqual(list(after(set_key(0, ROOT, b"a", text(bytes([97, 34, 92]))))[5:-1]),
                         [34, 97, 92, 34, 92, 92, 34])
        self.assertEqual(after(set_key(0, ROOT, b"a", text(b'""\\\\'))), b'{"a":"\\"\\"\\\\\\\\"}')

    def test_a_text_of_every_byte(self):
        for byte in range(256):
            asked = [92, byte] if byte in (34, 92) else [byte]
            self.assertEqual(list(after(set_key(0, ROOT, b"a", text(bytes([byte])))))[5:-1], [34, *asked, 34])
            self.assertEqual(list(after(set_key(0, ROOT, [byte], number(7)))), [123, 34, *asked, 34, 58, 55, 125])

    def test_a_key_with_signs(self):
        self.assertEqual(after(set_key(0, ROOT, b'\\k"', MAP)), b'{"\\\\k\\"":{}}')
        self.assertEqual(after(set_key(0, ROOT, b"\x00\x80\xff", MAP)), b'{"\x00\x80\xff":{}}')


class Maps(unittest.TestCase):
    def test_keys_in_order_of_bytes(self):
        keys = [b"b", b"a", b"ab", b"a\x00", b"\xff", b"B", b"aa", b"\x00", b"abc", b"\x7f", b"\x80", b'"', b"#", b"\\"]
        asked = (b'{"\x00":0,"\\"":0,"#":0,"B":0,"\\\\":0,"a":0,"a\x00":0,"aa":0,"ab":0,"abc":0,"b":0,'
                 b'"\x7f":0,"\x80":0,"\xff":0}')
        for order in (keys, keys[::-1], sorted(keys), sorted(keys)[::-1]):
            self.assertEqual(after(*[set_key(0, ROOT, key, number(0)) for key in order]), asked)

    def test_a_beginning_first(self):
        self.assertEqual(after(*[set_key(0, ROOT, b"k" * size, number(size)) for size in (3, 1, 32, 2)]),
                         b'{"k":1,"kk":2,"kkk":3,"' + b"k" * 32 + b'":32}')

    def test_a_key_set_to_nothing_and_again(self):
        calls = [set_key(0, ROOT, b"a", number(1)), set_key(0, ROOT, b"b", number(2)), set_key(0, ROOT, b"a", NOTHING)]
        self.assertEqual(after(*calls), b'{"b":2}')
        self.assertEqual(after(*calls, set_key(0, ROOT, b"b", NOTHING)), b"{}")
        self.assertEqual(after(*calls, set_key(0, ROOT, b"a", text(b"x"))), b'{"a":"x","b":2}')
        self.assertEqual(after(set_key(0, ROOT, b"a", NOTHING)), b"{}")

    def test_a_key_of_which_an_older_set_comes_later(self):
        first = set_message(2, 1, 5, ROOT, b"a", number(1))
        second = set_message(1, 1, 6, ROOT, b"a", NOTHING)
        third = set_message(1, 2, 7, ROOT, b"a", number(3))
        self.assertEqual(after(take(0, first, second)), b"{}")
        self.assertEqual(after(take(0, second, first)), b"{}")
        self.assertEqual(after(take(0, second, third, first)), b'{"a":3}')

    def test_sets_of_one_key_at_the_same_time(self):
        messages = [set_message(who, 1, 4, ROOT, b"a", number(who)) for who in (1, 2, 5, 7)]
        for order in itertools.permutations(messages):
            self.assertEqual(after(take(0, *order)), b'{"a":7}')
        for size in range(1, 5):
            self.assertEqual(after(take(0, *messages[:size])), b'{"a":' + [b"1", b"2", b"5", b"7"][size - 1] + b"}")

    def test_a_greater_time_before_a_greater_keeper(self):
        early = set_message(7, 1, 256, ROOT, b"a", number(7))
        late = set_message(1, 1, 257, ROOT, b"a", number(1))
        for order in ((early, late), (late, early)):
            self.assertEqual(after(take(0, *order)), b'{"a":1}')

    def test_an_object_that_is_set_anew_is_another(self):
        calls = [set_key(0, ROOT, b"a", MAP), set_key(0, (1, 0), b"x", number(1)), set_key(0, ROOT, b"a", MAP)]
        self.assertEqual(after(*calls), b'{"a":{}}')
        self.assertEqual(after(*calls, set_key(0, (1, 0), b"y", MAP)), b'{"a":{}}')
        self.assertEqual(after(*calls, set_key(0, (3, 0), b"y", MAP)), b'{"a":{"y":{}}}')

    def test_the_same_key_in_several_maps(self):
        self.assertEqual(after(set_key(0, ROOT, b"a", MAP), set_key(0, ROOT, b"b", MAP),
                               set_key(0, (1, 0), b"k", number(1)), set_key(0, (2, 0), b"k", number(2)),
                               set_key(0, ROOT, b"k", number(3))),
                         b'{"a":{"k":1},"b":{"k":2},"k":3}')


class Lists(unittest.TestCase):
    BEFORE = (set_key(0, ROOT, b"l", LIST),)

    def inside(self, *calls):
        given = after(*self.BEFORE, *calls)
        self.assertEqual((given[:5], given[-1:]), (b'{"l":', b"}"))
        return given[5:-1]

    def test_in_front_in_the_middle_at_the_end(self):
        calls = [insert(0, (1, 0), at, number(value)) for value, at in enumerate((0, 1, 0, 1, 4, 5))]
        self.assertEqual(self.inside(*calls), b"[2,3,0,1,4,5]")

    def test_removed_ones_with_others_behind_them(self):
        calls = [insert(0, (1, 0), at, number(at)) for at in range(5)]
        self.assertEqual(self.inside(*calls, remove(0, (1, 0), 0)), b"[1,2,3,4]")
        self.assertEqual(self.inside(*calls, remove(0, (1, 0), 1), remove(0, (1, 0), 1)), b"[0,3,4]")
        self.assertEqual(self.inside(*calls, remove(0, (1, 0), 1), insert(0, (1, 0), 1, number(9))), b"[0,9,2,3,4]")
        self.assertEqual(self.inside(*calls, remove(0, (1, 0), 4)), b"[0,1,2,3]")
        self.assertEqual(self.inside(*calls, *[remove(0, (1, 0), 0)] * 5), b"[]")

    def test_inserts_behind_one_that_is_removed(self):
        messages = [insert_message(1, 1, 9, (1, 0), (2, 0), number(9)),
                    insert_message(2, 1, 8, (1, 0), (2, 0), number(8)), remove_message(3, 1, 3, (1, 0), (2, 0))]
        calls = [insert(0, (1, 0), 0, number(0)), insert(0, (1, 0), 1, number(1))]
        for order in itertools.permutations(messages):
            self.assertEqual(self.inside(*calls, take(0, *order)), b"[9,8,1]")

    def test_inserts_of_several_keepers(self):
        messages = [insert_message(who, 1, 4, (1, 0), ROOT, number(who)) for who in (1, 2, 3)]
        messages += [insert_message(who, 2, 5, (1, 0), (4, who), number(who * 10)) for who in (1, 2, 3)]
        messages += [insert_message(4, 1, 6, (1, 0), (4, 2), number(40)),
                     insert_message(5, 1, 1, (1, 0), (5, 2), number(50))]
        for seed in range(30):
            random.Random(seed).shuffle(messages)
            self.assertEqual(self.inside(take(0, *messages)), b"[3,30,2,40,20,50,1,10]")

    def test_puts(self):
        calls = [insert(0, (1, 0), at, number(at)) for at in range(3)]
        self.assertEqual(self.inside(*calls, put(0, (1, 0), 1, text(b"x"))), b'[0,"x",2]')
        puts = [put(0, (1, 0), 0, MAP), put(0, (1, 0), 0, LIST), put(0, (1, 0), 2, COUNTER)]
        self.assertEqual(self.inside(*calls, *puts), b"[[],1,#0]")
        self.assertEqual(self.inside(*calls, remove(0, (1, 0), 0), put(0, (1, 0), 0, number(7))), b"[7,2]")

    def test_puts_of_several_keepers(self):
        calls = [insert(0, (1, 0), 0, number(0))]
        messages = [put_message(1, 1, 3, (1, 0), (2, 0), number(1)), put_message(2, 1, 4, (1, 0), (2, 0), number(2)),
                    put_message(3, 1, 4, (1, 0), (2, 0), number(3)), put_message(4, 1, 2, (1, 0), (2, 0), number(4))]
        for order in itertools.permutations(messages):
            self.assertEqual(self.inside(*calls, take(0, *order)), b"[3]")
        self.assertEqual(self.inside(*calls, take(0, messages[3])), b"[4]")

    def test_a_put_of_a_lesser_id_than_the_insert(self):
        messages = [insert_message(5, 1, 9, (1, 0), ROOT, number(5)), put_message(6, 1, 8, (1, 0), (9, 5), number(6)),
                    put_message(4, 1, 9, (1, 0), (9, 5), MAP)]
        self.assertEqual(self.inside(take(0, *messages)), b"[5]")
        self.assertEqual(self.inside(take(0, *messages, put_message(7, 1, 9, (1, 0), (9, 5), number(7)))), b"[7]")

    def test_a_put_of_a_removed_one(self):
        messages = [put_message(1, 1, 9, (1, 0), (2, 0), number(1)), remove_message(2, 1, 3, (1, 0), (2, 0))]
        for order in (messages, messages[::-1]):
            self.assertEqual(self.inside(insert(0, (1, 0), 0, number(0)), take(0, *order)), b"[]")

    def test_an_object_that_is_put_is_another(self):
        calls = [insert(0, (1, 0), 0, MAP), set_key(0, (2, 0), b"a", number(1)), put(0, (1, 0), 0, MAP)]
        self.assertEqual(self.inside(*calls), b"[{}]")
        self.assertEqual(self.inside(*calls, set_key(0, (4, 0), b"b", number(2)), set_key(0, (2, 0), b"c", MAP)),
                         b'[{"b":2}]')

    def test_a_long_chain(self):
        keeper = Keeper(0)
        do_set(keeper, ROOT, 1, 1, [108], [4])
        for at in range(4095):
            do_insert(keeper, (1, 0), at, 9, number(at))
        asked = b'{"l":[' + b",".join(str(at).encode() for at in range(4095)) + b"]}"
        self.assertEqual(do_tell(keeper, len(asked)), counted(asked))
        self.assertEqual(do_tell(keeper, len(asked) - 1), [-1])


class Counters(unittest.TestCase):
    def summed(self, *amounts):
        return after(set_key(0, ROOT, b"c", COUNTER), *[add(0, (1, 0), amount) for amount in amounts])

    def test_sums(self):
        for amounts in ((), (5,), (-5,), (1, 2, 3), (7, -9), (0,), (10, -10), (MOST,), (LEAST,), (MOST, LEAST)):
            self.assertEqual(self.summed(*amounts), b'{"c":#' + str(sum(amounts)).encode() + b"}")

    def test_past_the_ends(self):
        self.assertEqual(self.summed(MOST, 1), b'{"c":#-9223372036854775808}')
        self.assertEqual(self.summed(LEAST, -1), b'{"c":#9223372036854775807}')
        self.assertEqual(self.summed(MOST, MOST), b'{"c":#-2}')
        self.assertEqual(self.summed(LEAST, LEAST), b'{"c":#0}')
        self.assertEqual(self.summed(MOST, MOST, MOST), b'{"c":#9223372036854775805}')
        self.assertEqual(self.summed(MOST, 5, -6), b'{"c":#9223372036854775806}')
        self.assertEqual(self.summed(LEAST, LEAST, LEAST, -3), b'{"c":#9223372036854775805}')

    def test_adds_of_several_keepers(self):
        messages = [add_message(who, 1, 2, (1, 0), amount) for who, amount in ((1, MOST), (2, 3), (3, -1), (4, MOST))]
        for order in itertools.permutations(messages):
            self.assertEqual(after(set_key(0, ROOT, b"c", COUNTER), take(0, *order)), b'{"c":#0}')

    def test_doubled_adds_count_once(self):
        one = add_message(1, 1, 2, (1, 0), 5)
        self.assertEqual(after(set_key(0, ROOT, b"c", COUNTER), take(0, one, one), take(0, one)), b'{"c":#5}')

    def test_each_by_itself(self):
        self.assertEqual(after(set_key(0, ROOT, b"c", COUNTER), set_key(0, ROOT, b"d", COUNTER), add(0, (2, 0), 4),
                               add(0, (1, 0), -4), add(0, (2, 0), 1)), b'{"c":#-4,"d":#5}')


class WithinOneAnother(unittest.TestCase):
    def test_each_in_each(self):
        self.assertEqual(
            after(
                set_key(0, ROOT, b"m", MAP), set_key(0, (1, 0), b"l", LIST), insert(0, (2, 0), 0, MAP),
                set_key(0, (3, 0), b"c", COUNTER), add(0, (4, 0), 3), insert(0, (2, 0), 1, LIST),
                insert(0, (6, 0), 0, COUNTER), add(0, (7, 0), -1), insert(0, (2, 0), 2, text(b"t")),
                set_key(0, (1, 0), b"n", number(2)), set_key(0, ROOT, b"z", MAP),
            ),
            b'{"m":{"l":[{"c":#3},[#-1],"t"],"n":2},"z":{}}')

    def test_some_hundreds_deep_as_calls(self):
        messages = [set_message(1, 1, 1, ROOT, b"a", LIST)]
        for t in range(2, 402, 2):
            messages.append(insert_message(1, t, t, (t - 1, 1), ROOT, MAP))
            messages.append(set_message(1, t + 1, t + 1, (t, 1), b"a", LIST))
        self.assertEqual(after(take(0, *messages)), b'{"a":[' * 201 + b"]}" * 201)

    def test_own_ones_deep(self):
        calls = [set_key(0, ROOT, b"a", MAP)] + [set_key(0, (t, 0), b"a", MAP) for t in range(1, 190)]
        self.assertEqual(after(*calls, set_key(0, (190, 0), b"a", COUNTER)), b'{"a":' * 191 + b"#0" + b"}" * 191)

    def test_as_deep_as_there_is_room(self):
        keeper = Keeper(0)
        do_take(keeper, row_of(*[set_message(1, n, n, (n - 1, int(n > 1)), b"a", MAP) for n in range(1, 3001)]))
        do_take(keeper, row_of(*[set_message(1, n, n, (n - 1, 1), b"a", MAP) for n in range(3001, 4097)]))
        self.assertEqual(len(keeper.acts), 4096)
        self.assertEqual(bytes(tell_document(keeper.document)), b'{"a":' * 4096 + b"{}" + b"}" * 4096)
