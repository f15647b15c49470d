"""The numbers that are answered where a call is refused."""

WRONG = -1
LACKING = -2
AT_ODDS = -3
NO_ROOM = -4
