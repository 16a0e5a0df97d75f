"""The numbers that a call is refused with."""

NO_SUCH = -2
NO_ROLLS = -6
NO_MOVE = -17
NOT_AS_TOLD = -22
NO_ROOM = -28
NO_FIT = -33
NOT_BEGUN = -61
