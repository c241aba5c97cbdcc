"""The points of the shield, and how they lie to its middle and its diagonals."""

WIDTH = 480
HEIGHT = 576


# The bend sinister's lines are the bend's, seen from the other side.
def mirrored(p):
    return WIDTH - 1 - p


def from_middle(p):
    return abs(p - 240)


# How far a point lies above the bend: 0 on it, below 0 beneath it.
def over_bend(p, r):
    return 6 * p - 5 * r


def along_bend(p, r):
    return (5 * p + 6 * r) // 8
