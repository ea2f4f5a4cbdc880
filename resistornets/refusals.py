"""The numbers with which a call is refused."""

WRONG_NUMBER = -1
NO_ROOM = -2
NOT_ONE_SOLUTION = -3
NO_NET = -4
