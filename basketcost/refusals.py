"""The numbers by which a call is refused."""

NOT_AS_TOLD = -1
NOT_THERE = -2
IN_A_BASKET = -16
NO_ROOM = -28
NOT_SO_MANY = -33
EMPTY = -61
