"""Ids of acts, objects and list places: pairs (t, keeper), which Python orders as the document does."""

from keptbymany.bytenumbers import from_little_endian, little_endian

# No act has this id, so it stands for what no act made: the root, and the place in front of a list.
ROOT = (0, 0)
FRONT = (0, 0)

IDENTITY_BYTES = 5


def identity_bytes(identity):
    return little_endian(identity[0], 4) + [identity[1]]


def identity_from(row):
    return (from_little_endian(row[:4]), row[4])
