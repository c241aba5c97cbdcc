"""The calls: each stands by itself and answers one list of whole numbers."""

from heraldcoats.decode import Misplaced, decode
from heraldcoats.parts import coat_tincture
from heraldcoats.points import HEIGHT, WIDTH


def check(c):
    try:
        decode(c)
    except Misplaced as fault:
        return [-1, fault.place]
    return [0]


def at(p, r, c):
    try:
        coat = decode(c)
    except Misplaced as fault:
        return [-1, fault.place]
    if p >= WIDTH or r >= HEIGHT:
        return [-2]
    return [coat_tincture(coat, p, r)]
