"""The calls: each stands by itself and answers one list of whole numbers."""

from heraldcoats.decode import Misplaced, decode
from heraldcoats.encode import coat_bytes
from heraldcoats.faults import Misread
from heraldcoats.nesting import depth_of, parts_in
from heraldcoats.parts import marked_tincture, part_spot
from heraldcoats.points import HEIGHT, WIDTH
from heraldcoats.reading import read_words
from heraldcoats.wording import coat_words


def answered(c, tell):
    try:
        coat = decode(c)
    except Misplaced as fault:
        return [-1, fault.place]
    return tell(coat)


# The point is looked at once the coat has been taken in, since -1 comes first of all.
def answered_at(p, r, c, tell):
    def tell_point(coat):
        if p >= WIDTH or r >= HEIGHT:
            return [-2]
        return tell(part_spot(coat, p, r))

    return answered(c, tell_point)


def counted(numbers):
    return [len(numbers)] + numbers


def check(c):
    return answered(c, lambda coat: [0])


def at(p, r, c):
    return answered_at(p, r, c, lambda spot: [marked_tincture(spot.coat, spot.p, spot.r)])


def part(p, r, c):
    return answered_at(p, r, c, lambda spot: [spot.number, spot.p, spot.r])


def count(c):
    return answered(c, lambda coat: [parts_in(coat), depth_of(coat)])


def words(c):
    return answered(c, lambda coat: counted([ord(sign) for sign in coat_words(coat)]))


def read(t):
    try:
        coat = read_words(t)
    except Misread as fault:
        return [-fault.kind, fault.place]
    return counted(coat_bytes(coat))
