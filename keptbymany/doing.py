"""What a keeper does by itself: each call looks at its refusals in the order in which they are promised."""

from keptbymany.acts import ADD, INSERT, MOST_KEY_BYTES, PUT, REMOVE, SET, Change
from keptbymany.identities import FRONT, identity_bytes
from keptbymany.refusals import NO_OBJECT, NO_ROOM, WRONG
from keptbymany.valuekinds import COUNTER, LIST, MAP, is_whole_something, is_whole_value

MOST_VALUE_BYTES = 66


# Without a right k and n the key and the value are empty: they are looked at only behind these.
def do_set(keeper, target, k, n, key, value):
    if not 1 <= k <= MOST_KEY_BYTES or not 1 <= n <= MOST_VALUE_BYTES or not is_whole_value(value):
        return [WRONG]
    if keeper.document.kind_of(target) != MAP:
        return [NO_OBJECT]
    return do_change(keeper, Change(SET, target, key=key, value=value))


def do_insert(keeper, target, at, n, value):
    if not 1 <= n <= MOST_VALUE_BYTES or not is_whole_something(value):
        return [WRONG]
    if keeper.document.kind_of(target) != LIST:
        return [NO_OBJECT]
    # With the front at 0, what the new element is behind stands at its own place.
    there = [FRONT] + keeper.document.present(target)
    if not 0 <= at < len(there):
        return [WRONG]
    return do_change(keeper, Change(INSERT, target, element=there[at], value=value))


def do_put(keeper, target, at, n, value):
    if not 1 <= n <= MOST_VALUE_BYTES or not is_whole_something(value):
        return [WRONG]
    return do_at(keeper, PUT, target, at, value)


def do_remove(keeper, target, at):
    return do_at(keeper, REMOVE, target, at, None)


def do_at(keeper, kind, target, at, value):
    if keeper.document.kind_of(target) != LIST:
        return [NO_OBJECT]
    there = keeper.document.present(target)
    if not 0 <= at < len(there):
        return [WRONG]
    return do_change(keeper, Change(kind, target, element=there[at], value=value))


def do_add(keeper, target, amount):
    if keeper.document.kind_of(target) != COUNTER:
        return [NO_OBJECT]
    return do_change(keeper, Change(ADD, target, amount=amount))


def do_change(keeper, change):
    if not keeper.can_do_more():
        return [NO_ROOM]
    act = keeper.do(change)
    return [0] + identity_bytes(act.identity())
