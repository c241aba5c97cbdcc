"""Coats within coats: which there are, how many parts they have, how deep they go."""

from heraldcoats.model import Impaled, Marked, Quarterly


# In the order in which they are told, which is the order that parts are numbered in.
def coats_in(coat):
    if isinstance(coat, Marked):
        return []
    if isinstance(coat, Quarterly):
        return list(coat.coats)
    if isinstance(coat, Impaled):
        return [coat.dexter, coat.sinister]
    return [coat.below, coat.upon]


def parts_in(coat):
    if isinstance(coat, Marked):
        return 1
    return sum([parts_in(inner) for inner in coats_in(coat)])


def depth_of(coat):
    return 1 + max([depth_of(inner) for inner in coats_in(coat)], default=0)
