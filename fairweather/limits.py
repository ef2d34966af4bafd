"""How large a program may be."""

MOST_CELLS = 8
MOST_LEVELS = 12
MOST_PARTS = 200
MOST_WEIGHT = 1000
