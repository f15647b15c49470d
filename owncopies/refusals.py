"""The numbers that are answered where a call is refused."""

WRONG = -1
NO_ROOM = -4
