"""Points of coats: from the whole down to marked arms, and the tincture that these have there."""

from heraldcoats.arms import arms_tincture
from heraldcoats.model import Impaled, Marked, Quarterly
from heraldcoats.nesting import coats_in, parts_in
from heraldcoats.points import HEIGHT, WIDTH

ARGENT = 1
MURREY = 9
BAND_HEIGHT = 96


# A coat within the whole, the number of the first of its parts, and one of its points.
class Spot:
    def __init__(self, coat, number, p, r):
        self.coat = coat
        self.number = number
        self.p = p
        self.r = r


# One of the coats in a spot's coat, counted from 0, at its point (p, r).
def inner_spot(spot, index, p, r):
    coats = coats_in(spot.coat)
    ahead = sum([parts_in(coat) for coat in coats[:index]])
    return Spot(coats[index], spot.number + ahead, p, r)


# How many coats stand side by side, and below one another, in a coat quarterly of so many.
def coats_a_side(many):
    side = 1
    while side * side < many:
        side = side + 1
    return side


def quarterly_spot(spot):
    many = len(spot.coat.coats)
    side = coats_a_side(many)
    index = (spot.r * side // HEIGHT) * side + spot.p * side // WIDTH
    return inner_spot(spot, index if index < many else 0, spot.p * side % WIDTH, spot.r * side % HEIGHT)


def impaled_spot(spot):
    if spot.p < 240:
        return inner_spot(spot, 0, 2 * spot.p, spot.r)
    return inner_spot(spot, 1, 2 * (spot.p - 240), spot.r)


def pretence_spot(spot):
    if 160 <= spot.p < 320 and 192 <= spot.r < 384:
        return inner_spot(spot, 1, 3 * (spot.p - 160), 3 * (spot.r - 192))
    return inner_spot(spot, 0, spot.p, spot.r)


def spot_within(spot):
    if isinstance(spot.coat, Quarterly):
        return quarterly_spot(spot)
    if isinstance(spot.coat, Impaled):
        return impaled_spot(spot)
    return pretence_spot(spot)


# The marked arms that a point of a coat is of, at which of their points.
def part_spot(coat, p, r):
    spot = Spot(coat, 0, p, r)
    while not isinstance(spot.coat, Marked):
        spot = spot_within(spot)
    return spot


def band_tincture(marks, p, r):
    slot = p // 8
    if slot >= len(marks):
        return MURREY
    bits = 256 * marks[slot].g + marks[slot].k
    return ARGENT if (bits >> (r // 6)) % 2 == 1 else MURREY


def marked_tincture(marked, p, r):
    if len(marked.marks) > 0 and r < BAND_HEIGHT:
        return band_tincture(marked.marks, p, r)
    if marked.canton is not None and p < 160 and BAND_HEIGHT <= r < 288:
        return arms_tincture(marked.canton, 3 * p, 3 * (r - BAND_HEIGHT))
    return arms_tincture(marked.arms, p, r)
