"""From a coat's bytes to the coat, or to the first byte that can't stand where it does."""

from heraldcoats.bounds import (FEWEST_PIECES, FEWEST_QUARTERS, FIRST_STRAIGHT_WAY, LEAST_K, MOST_DEEP, MOST_G, MOST_K,
                                MOST_LAYERS, MOST_MARKS, MOST_PIECES, MOST_QUARTERS)
from heraldcoats.model import Plain, Parted, Varied, Ordinary, Group, Arms, Mark, Marked, Quarterly, Impaled, Pretence

LAST_TINCTURE = 8
LAST_LINE = 5
LAST_PARTED_WAY = 7
LAST_VARIED_WAY = 6
LAST_ORDINARY = 12
LAST_CHARGE = 15
LAST_MANNER = 6


# Raised for bytes that are no well made coat's, with the place of their first fault.
class Misplaced(Exception):
    def __init__(self, place):
        self.place = place


# Takes one byte after another, each within the bounds that hold where it stands.
class Reader:
    def __init__(self, numbers):
        self.numbers = numbers
        self.place = 0

    def take(self, least, most):
        if self.at_end():
            raise Misplaced(self.place)
        number = self.numbers[self.place]
        if number < least or number > most:
            raise Misplaced(self.place)
        self.place = self.place + 1
        return number

    def take_tincture_beside(self, other):
        tincture = self.take(0, LAST_TINCTURE)
        if tincture == other:
            raise Misplaced(self.place - 1)
        return tincture

    def at_end(self):
        return self.place == len(self.numbers)


def take_field(reader):
    kind = reader.take(0, 2)
    if kind == 0:
        return Plain(reader.take(0, LAST_TINCTURE))
    if kind == 1:
        return take_parted(reader)
    return take_varied(reader)


def take_parted(reader):
    way = reader.take(0, LAST_PARTED_WAY)
    line = reader.take(0, LAST_LINE)
    first = reader.take(0, LAST_TINCTURE)
    return Parted(way, line, first, reader.take_tincture_beside(first))


def take_varied(reader):
    way = reader.take(0, LAST_VARIED_WAY)
    pieces = reader.take(FEWEST_PIECES, MOST_PIECES)
    line = reader.take(0, LAST_LINE if way < FIRST_STRAIGHT_WAY else 0)
    first = reader.take(0, LAST_TINCTURE)
    return Varied(way, pieces, line, first, reader.take_tincture_beside(first))


# The field is that of the arms, below the layer that is filled: it says whether counterchanged can stand here.
def take_fill(reader, field):
    counterchanged = reader.take(0, 0 if isinstance(field, Plain) else 1)
    if counterchanged == 1:
        return None
    return take_field(reader)


def take_layer(reader, field):
    kind = reader.take(0, 1)
    if kind == 0:
        figure = reader.take(0, LAST_ORDINARY)
        line = reader.take(0, LAST_LINE)
        return Ordinary(figure, line, take_fill(reader, field))
    charge = reader.take(0, LAST_CHARGE)
    many = reader.take(1, 10)
    manner = reader.take(0, LAST_MANNER)
    size = reader.take(1, 4)
    return Group(charge, many, manner, size, take_fill(reader, field))


def take_arms(reader):
    field = take_field(reader)
    layers = []
    for k in range(reader.take(0, MOST_LAYERS)):
        layers.append(take_layer(reader, field))
    return Arms(field, layers)


def take_marks(reader):
    marks = []
    for slot in range(reader.take(0, MOST_MARKS)):
        g = reader.take(0, MOST_G)
        marks.append(Mark(g, reader.take(LEAST_K, MOST_K)))
    return marks


def take_marked(reader):
    arms = take_arms(reader)
    canton = None
    if reader.take(0, 1) == 1:
        canton = take_arms(reader)
    return Marked(arms, canton, take_marks(reader))


# The depth is 1 for the whole, and one more for each coat that this one is in.
def take_coat(reader, depth):
    # A coat of coats is 2 deep at least, so where the last depth is reached marked arms alone can stand.
    kind = reader.take(0, 3 if depth < MOST_DEEP else 0)
    if kind == 0:
        return take_marked(reader)
    if kind == 1:
        return take_quarterly(reader, depth)
    first = take_coat(reader, depth + 1)
    second = take_coat(reader, depth + 1)
    if kind == 2:
        return Impaled(first, second)
    return Pretence(first, second)


def take_quarterly(reader, depth):
    coats = []
    for k in range(reader.take(FEWEST_QUARTERS, MOST_QUARTERS)):
        coats.append(take_coat(reader, depth + 1))
    return Quarterly(coats)


def decode(numbers):
    reader = Reader(numbers)
    coat = take_coat(reader, 1)
    if not reader.at_end():
        raise Misplaced(reader.place)
    return coat
