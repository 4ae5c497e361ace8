"""One voice: what it is set to, and how far it has come."""

from voicesounds.floats import units_of

STILL = 0
RISING = 1
FALLING = 2
LET_GO = 3

FIRST_DRAW = 1


# Level, left, right, cut, damp, rise, fall, keep, go, low, band and env are floats, in the units of floats.py.
class Voice:
    def __init__(self):
        one = units_of(1, 0)
        self.wave = 0
        self.width = 2 ** 31
        self.level = one
        self.left = one
        self.right = one
        self.mode = 0
        self.cut = 0
        self.damp = 0
        self.rise = one
        self.fall = 0
        self.keep = one
        self.go = 0
        self.phase = 0
        self.draw = FIRST_DRAW
        self.step = 0
        self.low = 0
        self.band = 0
        self.stage = STILL
        self.env = 0
