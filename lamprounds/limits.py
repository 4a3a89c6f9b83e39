"""The limits that rounds, lots and calls keep."""

LEVELS = (2, 3, 5, 7)
MOST_LAMPS = 400
MOST_STEPS = 4000
MOST_ROUNDS = 4
MOST_PLACE = 24
MOST_END = 8
MOST_NEAR = 40
MOST_TIMES = 1000
MOST_CHANGES = 6
