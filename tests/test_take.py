"""Which bytes are taken for messages, and what happens where they are none."""

import unittest

from keptbymany.exchanging import do_take
from keptbymany.keepers import answers
from keptbymany.keeping import Keeper
from keptbymany.telling import tell_document
from tests.helper import (COUNTER, LIST, MAP, NOTHING, ROOT, add_message, ask, begin, counted, done, had, had_numbers,
                          insert_message, last, message, number, put_message, remove_message, row_of, set_key,
                          set_message, take, take_bytes, tell, text)

MADE = (1, 2)
BEHIND = [2, 0, 0, 0, 2]
KINDS = (
    set_message(2, 1, 1, ROOT, b"l", LIST),
    insert_message(2, 2, 2, MADE, ROOT, number(5)),
    put_message(2, 3, 3, MADE, (2, 2), text(b"y")),
    set_message(2, 4, 4, ROOT, b"c", COUNTER),
    add_message(2, 5, 5, (4, 2), -6),
    insert_message(2, 6, 6, MADE, (2, 2), MAP),
    remove_message(2, 7, 7, MADE, (2, 2)),
    set_message(2, 8, 8, ROOT, b"n", NOTHING),
)
RIGHT_AHEAD = set_message(1, 1, 1, ROOT, b"a", MAP)


class Right(unittest.TestCase):
    def test_ordinary_as_numbers(self):
        row = [18, 0, 1, 2, 1, 0, 0, 0, 1, 0, 0, 0, 0, 0, 0, 0, 0, 1, 97, 3]
        calls = [0, 0, 0, 7, 0, len(row), *row, 9, 0, 100]
        self.assertEqual(answers(calls), [1, 0, 1, 1, 9, 8, 123, 34, 97, 34, 58, 123, 125, 125])

    def test_no_bytes(self):
        self.assertEqual(answers([0, 0, 0, 7, 0, 0]), [1, 0, 1, 0])
        self.assertEqual(ask(begin(0, 3), take(0), had(0), tell(0))[1:], [[0], had_numbers(), counted(b"{}")])

    def test_each_kind_one_behind_another(self):
        given = ask(begin(0, 0), take(0, *KINDS), had(0), tell(0))
        self.assertEqual(given[1:], [[8], had_numbers(k2=8), counted(b'{"c":#-6,"l":[{}]}')])

    def test_each_kind_by_itself(self):
        given = ask(begin(0, 0), *[take(0, one) for one in KINDS], tell(0))
        self.assertEqual(given[1:], [[1]] * 8 + [counted(b'{"c":#-6,"l":[{}]}')])

    def test_each_value(self):
        values = {b"": NOTHING, b"7": number(7), b'""': text(b""), b'"' + b"x" * 64 + b'"': text(b"x" * 64),
                  b"{}": MAP, b"[]": LIST, b"#0": COUNTER}
        for written in values:
            with self.subTest(value=written):
                given = ask(begin(0, 0), take(0, set_message(2, 1, 1, ROOT, b"k", values[written])), tell(0))
                self.assertEqual(given[1:], [[1], counted(b'{"k":' + written + b"}" if written else b"{}")])

    def test_every_other_keeper(self):
        for keeper in range(1, 8):
            given = ask(begin(0, 0), take(0, set_message(keeper, 1, 1, ROOT, b"k", MAP)), had(0))
            self.assertEqual(given[1:], [[1], had_numbers(**{f"k{keeper}": 1})])

    def test_keys_at_the_ends_of_their_length(self):
        for k in (1, 32):
            given = ask(begin(0, 0), take(0, set_message(2, 1, 1, ROOT, b"k" * k, MAP)), tell(0))
            self.assertEqual(given[1:], [[1], counted(b'{"' + b"k" * k + b'":{}}')])

    def test_the_last_time_is_right(self):
        given = ask(begin(0, 0), take(0, set_message(2, 1, 4294967295, ROOT, b"k", MAP)),
                    set_key(0, ROOT, b"a", MAP), set_key(0, (4294967295, 2), b"a", MAP), tell(0))
        self.assertEqual(given[1:], [[1], [-4], [-4], counted(b'{"k":{}}')])

    def test_its_time_goes_on_from_what_came(self):
        given = ask(begin(0, 0), take(0, set_message(2, 1, 4294967293, ROOT, b"k", MAP)),
                    take(0, set_message(3, 1, 7, ROOT, b"k", LIST)), *[set_key(0, ROOT, b"a", MAP)] * 3)
        self.assertEqual(given[1:], [[1], [1], done(4294967294, 0), done(4294967295, 0), [-4]])

    def test_any_ids_are_right(self):
        for told in ((0, 1), (0, 255), (1, 8), (4294967295, 255), (4294967295, 7)):
            for one in (set_message(2, 1, 1, told, b"k", MAP), insert_message(2, 1, 1, told, ROOT, MAP),
                        put_message(2, 1, 1, ROOT, told, MAP), remove_message(2, 1, 1, ROOT, told),
                        add_message(2, 1, 1, told, 1)):
                self.assertEqual(ask(begin(0, 0), take(0, one), had(0))[1:], [[0], had_numbers()])


def changed(one, place, byte):
    return one[:place] + [byte] + one[place + 1:]


WRONG_MESSAGES = {
    "no bytes at all": [],
    "kind 0": changed(KINDS[0], 0, 0),
    "kind 6": changed(KINDS[0], 0, 6),
    "kind 255": changed(KINDS[0], 0, 255),
    "kind 0 of its head alone": message(0, 2, 1, 1, ROOT, []),
    "kind 6 as a remove": changed(KINDS[6], 0, 6),
    "kind 6 as an add": changed(KINDS[4], 0, 6),
    "keeper 8": changed(KINDS[0], 1, 8),
    "keeper 255": changed(KINDS[0], 1, 255),
    "n of 0": set_message(2, 0, 1, ROOT, b"l", LIST),
    "t of 0": set_message(2, 1, 0, ROOT, b"l", LIST),
    "key of 0": set_message(2, 1, 1, ROOT, b"", LIST),
    "key of 33": set_message(2, 1, 1, ROOT, b"l" * 33, LIST),
    "key of 255": set_message(2, 1, 1, ROOT, b"l" * 255, LIST),
    "key beyond the end": message(1, 2, 1, 1, ROOT, [3, 97, 97]),
    "key up to the end": message(1, 2, 1, 1, ROOT, [2, 97, 97]),
    "no key": message(1, 2, 1, 1, ROOT, []),
    "insert of nothing": insert_message(2, 1, 1, MADE, ROOT, NOTHING),
    "put of nothing": put_message(2, 1, 1, MADE, ROOT, NOTHING),
    "insert without a value": insert_message(2, 1, 1, MADE, ROOT, []),
    "put without a value": put_message(2, 1, 1, MADE, ROOT, []),
    "insert without an id": message(2, 2, 1, 1, MADE, []),
    "insert with too short an id": message(2, 2, 1, 1, MADE, [3, 3, 3, 3]),
    "remove with too short an id": message(4, 2, 1, 1, MADE, BEHIND[:4]),
    "remove with more": message(4, 2, 1, 1, MADE, BEHIND + [0]),
    "remove with a value": message(4, 2, 1, 1, MADE, BEHIND + MAP),
    "add of seven bytes": message(5, 2, 1, 1, MADE, [0] * 7),
    "add of nine bytes": message(5, 2, 1, 1, MADE, [0] * 9),
    "add of none": message(5, 2, 1, 1, MADE, []),
}
NOT_WHOLE = ([], [0, 0], [1], [1] + [0] * 7, [1] + [0] * 9, [2], [2, 1], [2, 1, 97, 97], [2, 0, 97],
             [2, 65] + [97] * 65, [2, 255] + [97] * 255, [3, 0], [3, 3], [4, 4], [5, 5], [5] + number(1), [6], [255])


class NotRight(unittest.TestCase):
    def refused(self, row):
        """The bytes are refused, and it is as if they had not been handed in."""
        given = ask(begin(0, 0), take_bytes(0, row), had(0), tell(0), take(0, *KINDS), had(0), tell(0))
        self.assertEqual(given[1:4], [[-3], had_numbers(), counted(b"{}")])
        self.assertEqual(given[4:], [[8], had_numbers(k2=8), counted(b'{"c":#-6,"l":[{}]}')])

    def refused_everywhere(self, row):
        self.refused(row)
        self.refused(row_of(RIGHT_AHEAD) + row)
        self.refused(row_of(RIGHT_AHEAD, KINDS[0], KINDS[1]) + row)

    def test_wrong_messages(self):
        for name in WRONG_MESSAGES:
            with self.subTest(name):
                self.refused_everywhere(row_of(WRONG_MESSAGES[name]))
                self.refused(row_of(WRONG_MESSAGES[name], RIGHT_AHEAD))
                self.refused(row_of(RIGHT_AHEAD, WRONG_MESSAGES[name], KINDS[0]))

    def test_values_that_are_not_whole(self):
        for value in NOT_WHOLE:
            for one in (set_message(2, 1, 1, ROOT, b"k", value), insert_message(2, 1, 1, ROOT, ROOT, value),
                        put_message(2, 1, 1, ROOT, ROOT, value)):
                with self.subTest(value=value, kind=one[0]):
                    self.refused_everywhere(row_of(one))

    def test_too_short(self):
        for one in KINDS:
            for size in range(len(one)):
                with self.subTest(kind=one[0], size=size):
                    self.refused(row_of(one[:size]))
                    self.refused(row_of(RIGHT_AHEAD, one[:size]))

    def test_bytes_left_over_in_a_message(self):
        for one in KINDS:
            for more in ([0], [1], [0, 0], MAP, one):
                self.refused_everywhere(row_of(one + more))

    def test_bytes_left_over_behind_messages(self):
        for more in ([0], [1], [255], [0, 0]):
            self.refused_everywhere(row_of(KINDS[0]) + more)

    def test_a_length_beyond_the_end(self):
        for one in KINDS:
            size = len(one)
            for length in (size + 1, size + 2, 255, 256 + size, 65535):
                with self.subTest(kind=one[0], length=length):
                    self.refused_everywhere([*length.to_bytes(2, "little"), *one])
            self.refused_everywhere([0, size, *one])

    def test_a_length_before_the_end(self):
        for one in KINDS:
            self.refused([len(one) - 1, 0, *one])
            self.refused([0, 0, *row_of(one)])

    def test_a_length_alone(self):
        for row in ([0], [5], [0, 0], [1, 0], [15, 0], [255, 255]):
            self.refused_everywhere(row)

    def test_bytes_without_lengths(self):
        for one in KINDS:
            self.refused(one)

    def test_wrong_acts_of_itself_are_refused_too(self):
        wrong = set_message(0, 1, 1, ROOT, b"", LIST)
        self.assertEqual(last(begin(0, 0), take(0, wrong)), [-3])
        self.assertEqual(last(begin(0, 0), take(0, KINDS[0]), take(0, KINDS[0][:-1])), [-3])

    def test_right_messages_ahead_do_not_wait_either(self):
        # Had they come to wait, the first act of keeper 2 would bring them along.
        given = ask(begin(0, 0), take_bytes(0, row_of(*KINDS[1:]) + [0]), take(0, KINDS[0]), had(0), tell(0))
        self.assertEqual(given[1:], [[-3], [1], had_numbers(k2=1), counted(b'{"l":[]}')])

    def test_what_waits_stays(self):
        given = ask(begin(0, 0), take(0, KINDS[1]), take_bytes(0, row_of(KINDS[0]) + [0]), had(0), take(0, KINDS[0]))
        self.assertEqual(given[1:], [[0], [-3], had_numbers(), [2]])


class ManyBytes(unittest.TestCase):
    """What does not fit one list that is handed in."""

    def row(self, size):
        # 2978 removes of 22 bytes, and a set that has the rest.
        removes = [remove_message(2, n, n, ROOT, ROOT) for n in range(1, 2979)]
        filling = set_message(2, 2979, 2979, ROOT, b"k" * (size - 65536 + 1), NOTHING)
        row = row_of(*removes, filling)
        self.assertEqual(len(row), size)
        return row

    def test_as_many_as_may_be(self):
        keeper = Keeper(0)
        self.assertEqual(do_take(keeper, self.row(65536)), [2979])
        self.assertEqual(keeper.counts, [0, 0, 2979, 0, 0, 0, 0, 0])

    def test_one_more(self):
        keeper = Keeper(0)
        self.assertEqual(do_take(keeper, self.row(65537)), [-2])
        self.assertEqual((keeper.counts, keeper.time, keeper.acts), ([0] * 8, 0, []))
        self.assertEqual(do_take(keeper, row_of(KINDS[0])), [1])

    def test_more_that_are_not_right(self):
        for size in (65537, 70000):
            self.assertEqual(do_take(Keeper(0), [0] * size), [-2])
        self.assertEqual(do_take(Keeper(0), [0] * 65536), [-3])

    def test_nothing_happens_where_the_last_is_not_right(self):
        keeper = Keeper(0)
        row = self.row(65536)
        row[-1] = 6
        self.assertEqual(do_take(keeper, row), [-3])
        self.assertEqual((keeper.counts, tell_document(keeper.document)), ([0] * 8, list(b"{}")))

    def test_as_many_as_fit_one_list(self):
        messages = [remove_message(2, n, n, ROOT, ROOT) for n in range(1, 727)]
        self.assertEqual(len(row_of(*messages)), 15972)
        given = ask(begin(0, 0), take(0, *messages), had(0))
        self.assertEqual(given[1:], [[726], had_numbers(k2=726)])
