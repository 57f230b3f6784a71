"""Writes calls as numbers and parts the answers again."""

from keptbymany.keepers import answers

ROOT = (0, 0)
NOTHING = [0]
MAP = [3]
LIST = [4]
COUNTER = [5]
INT_MIN = -2147483648
INT_MAX = 2147483647


def number(whole):
    return [1] + list(whole.to_bytes(8, "little", signed=True))


def text(content):
    return [2, len(content)] + list(content)


def begin(o, keeper):
    return [0, o, keeper]


def set_key(o, target, key, value):
    return set_with_counts(o, target, len(key), len(value), key, value)


def set_with_counts(o, target, k, n, key, value):
    return [1, o, *target, k, n, len(key), *key, len(value), *value]


def insert(o, target, at, value):
    return insert_with_count(o, target, at, len(value), value)


def insert_with_count(o, target, at, n, value):
    return [2, o, *target, at, n, len(value), *value]


def put(o, target, at, value):
    return put_with_count(o, target, at, len(value), value)


def put_with_count(o, target, at, n, value):
    return [3, o, *target, at, n, len(value), *value]


def remove(o, target, at):
    return [4, o, *target, at]


def add(o, target, amount):
    return [5, o, *target, amount]


def since(o, most=INT_MAX, numbers=(0, 0, 0, 0, 0, 0, 0, 0)):
    return [6, o, most, len(numbers), *numbers]


def take(o, *messages):
    return take_bytes(o, row_of(*messages))


def take_bytes(o, row):
    return [7, o, len(row), *row]


def had(o):
    return [8, o]


def tell(o, most=INT_MAX):
    return [9, o, most]


def hand(o, p, most=INT_MAX):
    return [10, o, p, most]


def identity(pair):
    return [*pair[0].to_bytes(4, "little"), pair[1]]


def message(kind, keeper, n, t, target, rest):
    return [kind, keeper, *n.to_bytes(4, "little"), *t.to_bytes(4, "little"), *identity(target), *rest]


def set_message(keeper, n, t, target, key, value):
    return message(1, keeper, n, t, target, [len(key), *key, *value])


def insert_message(keeper, n, t, target, before, value):
    return message(2, keeper, n, t, target, [*identity(before), *value])


def put_message(keeper, n, t, target, element, value):
    return message(3, keeper, n, t, target, [*identity(element), *value])


def remove_message(keeper, n, t, target, element):
    return message(4, keeper, n, t, target, identity(element))


def add_message(keeper, n, t, target, amount):
    return message(5, keeper, n, t, target, amount.to_bytes(8, "little", signed=True))


def row_of(*messages):
    return [byte for one in messages for byte in [*len(one).to_bytes(2, "little"), *one]]


def counted(content):
    """What since and tell answer: how many bytes, and they."""
    return [len(content), *content]


def had_numbers(**numbers):
    """What had answers, with so many of the keepers that are named, k0 to k7."""
    return [0] + [numbers.get(f"k{keeper}", 0) for keeper in range(8)]


def done(t, keeper):
    return [0, *t.to_bytes(4, "little"), keeper]


def ask(*calls):
    """The answers of the calls, one list each."""
    flat = [whole for call in calls for whole in call]
    return part(answers(flat))


def part(answered):
    parts = []
    position = 0
    while position < len(answered):
        end = position + 1 + answered[position]
        parts.append(answered[position + 1:end])
        position = end
    if position != len(answered):
        raise AssertionError("the counts do not fit the answers")
    return parts


def last(*calls):
    return ask(*calls)[-1]
