"""The numbers below 0 that a call answers when it is refused."""

NOT_THERE = -2
NO_LOT = -6
LESS_THERE = -12
NO_PORT = -16
ALREADY_SO = -17
NOT_AS_TOLD = -22
TOO_MANY = -28
NEVER = -33
NO_ROOM = -62
TOO_LATE = -75
