"""The numbers that refuse a call."""

TOO_LONG = -1
WRONG = -2
NO_OBJECT = -3
NO_MESSAGES = -3
NO_ROOM = -4
