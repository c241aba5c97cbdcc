"""The groups: where the charges of a group stand, and how large they are."""

from heraldcoats.charges import REACH, charge_has
from heraldcoats.points import HEIGHT, WIDTH

# How many stand in each row, from the top, of one charge, of two, and so on to ten.
ROWS = ((1,), (2,), (2, 1), (2, 2), (2, 1, 2), (3, 2, 1), (3, 3, 1), (3, 2, 3), (3, 3, 3), (4, 3, 2, 1))


# The middle of the k-th of so many equal shares of a length.
def share_middle(length, k, many):
    return length * (2 * k + 1) // (2 * many)


def across(k, many):
    return share_middle(WIDTH, k, many)


def down(k, many):
    return share_middle(HEIGHT, k, many)


def row_middles(many):
    middles = []
    deep = len(ROWS[many - 1])
    for i, wide in enumerate(ROWS[many - 1]):
        for j in range(wide):
            middles.append((across(j, wide), down(i, deep)))
    return middles


def fess_middles(many):
    return [(across(k, many), 288) for k in range(many)]


def pale_middles(many):
    return [(240, down(k, many)) for k in range(many)]


def bend_middles(many):
    return [(across(k, many), down(k, many)) for k in range(many)]


def bend_sinister_middles(many):
    return [(WIDTH - across(k, many), down(k, many)) for k in range(many)]


def chief_middles(many):
    return [(across(k, many), 80) for k in range(many)]


def base_middles(many):
    return [(across(k, many), 504) for k in range(many)]


MIDDLES = (row_middles, fess_middles, pale_middles, bend_middles, bend_sinister_middles, chief_middles, base_middles)


def row_half(many):
    return min(240 // max(ROWS[many - 1]), 288 // len(ROWS[many - 1]))


def fess_half(many):
    return min(240 // many, 84)


def pale_half(many):
    return min(288 // many, 72)


def bend_half(many):
    return min(240 // many, 96)


def chief_half(many):
    return min(240 // many, 72)


def base_half(many):
    return min(240 // many, 64)


HALVES = (row_half, fess_half, pale_half, bend_half, bend_half, chief_half, base_half)


def half_side(group):
    return HALVES[group.manner](group.many) * group.size // 4


def group_has(group, p, r):
    half = half_side(group)
    for middle in MIDDLES[group.manner](group.many):
        if charge_has(group.charge, (p - middle[0]) * REACH // half, (r - middle[1]) * REACH // half):
            return True
    return False
