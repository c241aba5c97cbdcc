"""How many and how much of a thing there may be in a coat."""

FEWEST_PIECES = 2
MOST_PIECES = 24
# From this way on (chequy, lozengy) a varied field is straight alone.
FIRST_STRAIGHT_WAY = 5
MOST_LAYERS = 8
MOST_MARKS = 60
MOST_G = 127
LEAST_K = 1
MOST_K = 255
FEWEST_QUARTERS = 2
MOST_QUARTERS = 9
MOST_DEEP = 4
