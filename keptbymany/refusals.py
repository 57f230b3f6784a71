"""The numbers that refuse a call."""

WRONG = -2
NO_OBJECT = -3
NO_ROOM = -4
