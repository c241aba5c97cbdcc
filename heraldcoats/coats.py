"""The calls: each stands by itself and answers one list of whole numbers."""

from heraldcoats.decode import Misplaced, decode


def check(c):
    try:
        decode(c)
    except Misplaced as fault:
        return [-1, fault.place]
    return [0]
