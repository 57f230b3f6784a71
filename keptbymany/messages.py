"""Acts as the bytes that go to other keepers, and these read again: None stands for bytes that aren't right."""

from keptbymany.acts import ADD, INSERT, KEEPERS, MOST_KEY_BYTES, PUT, REMOVE, SET, Act, Change
from keptbymany.bytenumbers import from_little_endian, little_endian, with_sign
from keptbymany.identities import IDENTITY_BYTES, identity_bytes, identity_from
from keptbymany.valuekinds import is_whole_something, is_whole_value

LENGTH_BYTES = 2
HEAD_BYTES = 15
AMOUNT_BYTES = 8


def message_of(act):
    head = [act.change.kind, act.keeper] + little_endian(act.n, 4) + little_endian(act.t, 4)
    return head + identity_bytes(act.change.target) + rest_of(act.change)


def rest_of(change):
    if change.kind == SET:
        return [len(change.key)] + change.key + change.value
    if change.kind == ADD:
        return little_endian(change.amount, AMOUNT_BYTES)
    if change.kind == REMOVE:
        return identity_bytes(change.element)
    return identity_bytes(change.element) + change.value


def with_length(message):
    return little_endian(len(message), LENGTH_BYTES) + message


def acts_in(row):
    acts = []
    position = 0
    while position < len(row):
        start = position + LENGTH_BYTES
        end = start + from_little_endian(row[position:start])
        # A length that is cut off itself ends beyond the row too.
        if end > len(row):
            return None
        act = act_from(row[start:end])
        if act is None:
            return None
        acts.append(act)
        position = end
    return acts


def act_from(message):
    if len(message) < HEAD_BYTES:
        return None
    keeper = message[1]
    n = from_little_endian(message[2:6])
    t = from_little_endian(message[6:10])
    if keeper >= KEEPERS or n == 0 or t == 0:
        return None
    change = change_from(message[0], identity_from(message[10:HEAD_BYTES]), message[HEAD_BYTES:])
    if change is None:
        return None
    return Act(keeper, n, t, change)


def change_from(kind, target, rest):
    if kind == SET:
        return set_from(target, rest)
    if kind == INSERT or kind == PUT:
        return value_change_from(kind, target, rest)
    if kind == REMOVE and len(rest) == IDENTITY_BYTES:
        return Change(REMOVE, target, element=identity_from(rest))
    if kind == ADD and len(rest) == AMOUNT_BYTES:
        return Change(ADD, target, amount=with_sign(from_little_endian(rest)))
    return None


# Of a key that is cut off no value is left, and none is not a whole one.
def set_from(target, rest):
    if not rest or not 1 <= rest[0] <= MOST_KEY_BYTES:
        return None
    end = 1 + rest[0]
    if not is_whole_value(rest[end:]):
        return None
    return Change(SET, target, key=rest[1:end], value=rest[end:])


def value_change_from(kind, target, rest):
    value = rest[IDENTITY_BYTES:]
    if not is_whole_something(value):
        return None
    return Change(kind, target, element=identity_from(rest[:IDENTITY_BYTES]), value=value)
