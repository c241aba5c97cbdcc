"""The ordinaries: which points each of them has, by a line."""

from heraldcoats.lines import offset
from heraldcoats.points import along_bend, from_middle, mirrored, over_bend


def chief(line, p, r):
    return r < 160 + offset(line, p)


def base(line, p, r):
    return r >= 432 + offset(line, p)


def upright(line, p, r, left, right):
    s = offset(line, r)
    return left + s <= p < right + s


def level(line, p, r, top, bottom):
    s = offset(line, p)
    return top + s <= r < bottom + s


def slanting(line, p, r, breadth):
    return abs(over_bend(p, r) - 8 * offset(line, along_bend(p, r))) < breadth


def pale(line, p, r):
    return upright(line, p, r, 168, 312)


def fess(line, p, r):
    return level(line, p, r, 204, 372)


def bend(line, p, r):
    return slanting(line, p, r, 800)


def bend_sinister(line, p, r):
    return slanting(line, mirrored(p), r, 800)


def chevron(line, p, r):
    return 0 <= r - 168 - from_middle(p) - offset(line, p) < 144


def cross(line, p, r):
    return upright(line, p, r, 180, 300) or level(line, p, r, 228, 348)


def saltire(line, p, r):
    return slanting(line, p, r, 560) or slanting(line, mirrored(p), r, 560)


def pile(line, p, r):
    return 576 * from_middle(p) < 160 * (576 - r) + 576 * offset(line, r)


def bordure(line, p, r):
    at_side = p < 48 + offset(line, r) or p >= 432 - offset(line, r)
    return at_side or r < 48 + offset(line, p) or r >= 528 - offset(line, p)


def in_corner(line, p, r, right, bottom):
    return p < right + offset(line, r) and r < bottom + offset(line, p)


def canton(line, p, r):
    return in_corner(line, p, r, 176, 208)


def quarter(line, p, r):
    return in_corner(line, p, r, 240, 288)


ORDINARIES = (chief, base, pale, fess, bend, bend_sinister, chevron, cross, saltire, pile, bordure, canton, quarter)


def ordinary_has(figure, line, p, r):
    return ORDINARIES[figure](line, p, r)
