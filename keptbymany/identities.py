"""Ids of acts, objects and list places: pairs (t, keeper), which Python orders as the document does."""

# No act has this id, so it stands for what no act made: the root, and the place in front of a list.
ROOT = (0, 0)
FRONT = (0, 0)


def little_endian(number, size):
    return [(number >> (8 * place)) & 255 for place in range(size)]


def identity_bytes(identity):
    return little_endian(identity[0], 4) + [identity[1]]
