"""The parts that a quality is the sum of."""

GOOD = 0
STALE = 1
BELOW = 2
ABOVE = 4
JUMPED = 8
STUCK = 16
MADE_UP = 64
BAD = 128
