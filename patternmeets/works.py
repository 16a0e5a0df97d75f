"""What is kept of one carpet: its repeat, strips and rolls, and the states it can go back to."""

MOST_TAKEN_BACK = 10


# A strip or a roll. None is changed once it is made, so earlier states may share it.
class Piece:
    def __init__(self, long, begins):
        self.long = long
        self.begins = begins


class Carpet:
    # No repeat that can be begun with is 0, so 0 stands for: not begun.
    def __init__(self):
        self.repeat = 0
        self.strips = []
        self.rolls = []
        self.past = []

    def begin_anew(self, repeat):
        self.repeat = repeat
        self.strips = []
        self.rolls = []
        self.past = []

    # The lists handed in are new ones: the old ones live on, unchanged, in the past.
    def change(self, repeat, strips, rolls):
        past = self.past + [(self.repeat, self.strips, self.rolls)]
        self.past = past[-MOST_TAKEN_BACK:]
        self.repeat = repeat
        self.strips = strips
        self.rolls = rolls

    def take_back(self):
        state = self.past[-1]
        self.past = self.past[:-1]
        self.repeat = state[0]
        self.strips = state[1]
        self.rolls = state[2]
