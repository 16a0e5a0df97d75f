"""The numbers that a call is refused with."""

NO_SUCH = -2
NOT_AS_TOLD = -22
NO_ROOM = -28
NOT_BEGUN = -61
