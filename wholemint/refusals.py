"""The numbers that a refused call answers."""

NOT_THERE = -2
BOX_EMPTY = -6
OTHER_KIND = -13
NOT_AS_TOLD = -22
NO_ROOM = -28
NOT_TO_BE_DONE = -33
NOT_AS_FINE = -71
