"""The calls on three keepers' objects, and their answers."""

from keptbymany.acts import KEEPERS
from keptbymany.doing import do_add, do_insert, do_put, do_remove, do_set
from keptbymany.exchanging import do_hand, do_since, do_take
from keptbymany.keeping import Keeper
from keptbymany.reading import Reader
from keptbymany.refusals import WRONG
from keptbymany.telling import do_tell


def call_begin(keepers, reader):
    o = reader.read_number()
    who = reader.read_number()
    if not 0 <= who < KEEPERS:
        return [WRONG]
    keepers[o] = Keeper(who)
    return [0]


def call_set(keepers, reader):
    keeper = keepers[reader.read_number()]
    target = reader.read_identity()
    k = reader.read_number()
    n = reader.read_number()
    key = reader.read_row()
    value = reader.read_row()
    return do_set(keeper, target, k, n, key, value)


def call_insert(keepers, reader):
    return call_with_value(keepers, reader, do_insert)


def call_put(keepers, reader):
    return call_with_value(keepers, reader, do_put)


def call_with_value(keepers, reader, do):
    keeper = keepers[reader.read_number()]
    target = reader.read_identity()
    at = reader.read_number()
    n = reader.read_number()
    value = reader.read_row()
    return do(keeper, target, at, n, value)


def call_remove(keepers, reader):
    keeper = keepers[reader.read_number()]
    target = reader.read_identity()
    at = reader.read_number()
    return do_remove(keeper, target, at)


def call_add(keepers, reader):
    keeper = keepers[reader.read_number()]
    target = reader.read_identity()
    amount = reader.read_number()
    return do_add(keeper, target, amount)


def call_since(keepers, reader):
    keeper = keepers[reader.read_number()]
    most = reader.read_number()
    had = reader.read_row()
    return do_since(keeper, most, had)


def call_take(keepers, reader):
    keeper = keepers[reader.read_number()]
    return do_take(keeper, reader.read_row())


def call_had(keepers, reader):
    keeper = keepers[reader.read_number()]
    return [0] + keeper.counts


def call_tell(keepers, reader):
    keeper = keepers[reader.read_number()]
    return do_tell(keeper, reader.read_number())


def call_hand(keepers, reader):
    giver = keepers[reader.read_number()]
    taker = keepers[reader.read_number()]
    return do_hand(giver, taker, reader.read_number())


# Each call stands at its number.
CALLS = (
    call_begin, call_set, call_insert, call_put, call_remove, call_add,
    call_since, call_take, call_had, call_tell, call_hand,
)


def answers(calls):
    keepers = [None, None, None]
    reader = Reader(calls)
    answered = []
    while reader.has_more():
        call = CALLS[reader.read_number()]
        answer = call(keepers, reader)
        answered.append(len(answer))
        answered.extend(answer)
    return answered
