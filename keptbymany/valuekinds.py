"""Values, kept as the bytes that tell them: the first is the kind."""

NOTHING = 0
NUMBER = 1
TEXT = 2
MAP = 3
LIST = 4
COUNTER = 5

MOST_TEXT_BYTES = 64

# How many bytes a value has, at its kind; a text's own count tells the rest of it.
SIZES = (1, 9, 2, 1, 1, 1)


def is_whole_value(value):
    if not value:
        return False
    kind = value[0]
    if kind > COUNTER or len(value) < SIZES[kind]:
        return False
    if kind == TEXT:
        return value[1] <= MOST_TEXT_BYTES and len(value) == SIZES[kind] + value[1]
    return len(value) == SIZES[kind]


def is_whole_something(value):
    return is_whole_value(value) and value[0] != NOTHING


def is_object_kind(kind):
    return MAP <= kind <= COUNTER
