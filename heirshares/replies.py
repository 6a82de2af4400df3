"""The numbers that a call answers first, where they aren't a count or a person."""

DONE = 0
BAD_NUMBER = -1
NO_SUCH_PERSON = -2
RENOUNCED_ALREADY = -3
NOT_AS_THINGS_STAND = -4
NO_ROOM = -5
MORE_THAN_ALL = -6
NO_ANCESTOR = -6
