"""The numbers that a refused call answers."""

NOT_THERE = -2
BOX_EMPTY = -6
TOO_FEW_COINS = -12
OTHER_KIND = -13
TOO_LITTLE_CREDIT = -20
NOT_AS_TOLD = -22
NO_ROOM = -28
NOT_TO_BE_DONE = -33
NOT_AS_FINE = -71
