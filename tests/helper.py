"""Writes calls as numbers and parts the answers again."""

from keptbymany.keepers import answers

ROOT = (0, 0)
NOTHING = [0]
MAP = [3]
LIST = [4]
COUNTER = [5]
INT_MIN = -2147483648
INT_MAX = 2147483647


def number(whole):
    return [1] + list(whole.to_bytes(8, "little", signed=True))


def text(content):
    return [2, len(content)] + list(content)


def begin(o, keeper):
    return [0, o, keeper]


def set_key(o, target, key, value):
    return set_with_counts(o, target, len(key), len(value), key, value)


def set_with_counts(o, target, k, n, key, value):
    return [1, o, *target, k, n, len(key), *key, len(value), *value]


def insert(o, target, at, value):
    return insert_with_count(o, target, at, len(value), value)


def insert_with_count(o, target, at, n, value):
    return [2, o, *target, at, n, len(value), *value]


def put(o, target, at, value):
    return put_with_count(o, target, at, len(value), value)


def put_with_count(o, target, at, n, value):
    return [3, o, *target, at, n, len(value), *value]


def remove(o, target, at):
    return [4, o, *target, at]


def add(o, target, amount):
    return [5, o, *target, amount]


def done(t, keeper):
    return [0, *t.to_bytes(4, "little"), keeper]


def ask(*calls):
    """The answers of the calls, one list each."""
    flat = [whole for call in calls for whole in call]
    return part(answers(flat))


def part(answered):
    parts = []
    position = 0
    while position < len(answered):
        end = position + 1 + answered[position]
        parts.append(answered[position + 1:end])
        position = end
    if position != len(answered):
        raise AssertionError("the counts do not fit the answers")
    return parts


def last(*calls):
    return ask(*calls)[-1]
