"""The fields: which of its tinctures a field has at a point."""

from heraldcoats.lines import offset
from heraldcoats.model import Parted, Plain
from heraldcoats.points import along_bend, from_middle, mirrored, over_bend


def per_pale(line, p, r):
    return p < 240 + offset(line, r)


def per_fess(line, p, r):
    return r < 288 + offset(line, p)


def per_bend(line, p, r):
    return over_bend(p, r) > 8 * offset(line, along_bend(p, r))


def per_bend_sinister(line, p, r):
    return per_bend(line, mirrored(p), r)


def per_chevron(line, p, r):
    return r < 192 + from_middle(p) + offset(line, p)


def per_saltire(line, p, r):
    return per_bend(line, p, r) == per_bend_sinister(line, p, r)


def per_cross(line, p, r):
    return per_pale(line, p, r) == per_fess(line, p, r)


def gyronny(line, p, r):
    return per_saltire(line, p, r) != per_cross(line, p, r)


PARTINGS = (per_pale, per_fess, per_bend, per_bend_sinister, per_chevron, per_saltire, per_cross, gyronny)


def barry(pieces, line, p, r):
    return (r + offset(line, p)) * pieces // 576


def paly(pieces, line, p, r):
    return (p + offset(line, r)) * pieces // 480


def bendy(pieces, line, p, r):
    return (over_bend(p, r) + 2880 + 8 * offset(line, along_bend(p, r))) * pieces // 5760


def bendy_sinister(pieces, line, p, r):
    return bendy(pieces, line, mirrored(p), r)


def chevronny(pieces, line, p, r):
    return (r - from_middle(p) + 240 + offset(line, p)) * pieces // 816


# Chequy and lozengy are straight alone; they are handed a line to stand in one table with the others.
def chequy(pieces, line, p, r):
    return p * pieces // 480 + r * ((6 * pieces + 4) // 5) // 576


def lozengy(pieces, line, p, r):
    return (6 * p + 5 * r) * pieces // 5760 + (over_bend(p, r) + 2880) * pieces // 5760


VARIATIONS = (barry, paly, bendy, bendy_sinister, chevronny, chequy, lozengy)


# Asked of parted and varied fields alone.
def has_first(field, p, r):
    if isinstance(field, Parted):
        return PARTINGS[field.way](field.line, p, r)
    return VARIATIONS[field.way](field.pieces, field.line, p, r) % 2 == 0


def field_tincture(field, p, r):
    if isinstance(field, Plain):
        return field.tincture
    return field.first if has_first(field, p, r) else field.second


def counterchanged_tincture(field, p, r):
    return field.second if has_first(field, p, r) else field.first
