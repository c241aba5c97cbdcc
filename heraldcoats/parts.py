"""Points of coats: from the whole down to marked arms, and the tincture there."""

from heraldcoats.arms import arms_tincture
from heraldcoats.model import Impaled, Marked, Quarterly
from heraldcoats.points import HEIGHT, WIDTH

ARGENT = 1
MURREY = 9
BAND_HEIGHT = 96


# A coat and one of its points.
class Spot:
    def __init__(self, coat, p, r):
        self.coat = coat
        self.p = p
        self.r = r


# How many coats stand side by side, and below one another, in a coat quarterly of so many.
def coats_a_side(many):
    side = 1
    while side * side < many:
        side = side + 1
    return side


def quarterly_spot(coats, p, r):
    side = coats_a_side(len(coats))
    number = (r * side // HEIGHT) * side + p * side // WIDTH
    coat = coats[number] if number < len(coats) else coats[0]
    return Spot(coat, p * side % WIDTH, r * side % HEIGHT)


def impaled_spot(coat, p, r):
    if p < 240:
        return Spot(coat.dexter, 2 * p, r)
    return Spot(coat.sinister, 2 * (p - 240), r)


def pretence_spot(coat, p, r):
    if 160 <= p < 320 and 192 <= r < 384:
        return Spot(coat.upon, 3 * (p - 160), 3 * (r - 192))
    return Spot(coat.below, p, r)


def spot_within(coat, p, r):
    if isinstance(coat, Quarterly):
        return quarterly_spot(coat.coats, p, r)
    if isinstance(coat, Impaled):
        return impaled_spot(coat, p, r)
    return pretence_spot(coat, p, r)


# The marked arms that a point of a coat is of, at which of their points.
def part_spot(coat, p, r):
    spot = Spot(coat, p, r)
    while not isinstance(spot.coat, Marked):
        spot = spot_within(spot.coat, spot.p, spot.r)
    return spot


def band_tincture(marks, p, r):
    slot = p // 8
    if slot >= len(marks):
        return MURREY
    bits = 256 * marks[slot].g + marks[slot].k
    return ARGENT if (bits >> (r // 6)) % 2 == 1 else MURREY


def marked_tincture(marked, p, r):
    if len(marked.marks) > 0 and r < BAND_HEIGHT:
        return band_tincture(marked.marks, p, r)
    if marked.canton is not None and p < 160 and BAND_HEIGHT <= r < 288:
        return arms_tincture(marked.canton, 3 * p, 3 * (r - BAND_HEIGHT))
    return arms_tincture(marked.arms, p, r)


def coat_tincture(coat, p, r):
    spot = part_spot(coat, p, r)
    return marked_tincture(spot.coat, spot.p, spot.r)
