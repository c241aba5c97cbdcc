"""Builds coats for the tests.

A coat is built as a list of cells. A cell is a byte and what could stand in its place, behind the bytes before it:
a list of numbers, or, for the first byte of a coat, how deep that coat stands in the whole (from 1).
"""

TINCTURES = list(range(9))
LINES = list(range(6))
FLAG = [0, 1]


def bytes_of(cells):
    return [byte for byte, allowed in cells]


def allowed_in(cell):
    allowed = cell[1]
    if isinstance(allowed, int):
        return [0, 1, 2, 3] if allowed < 4 else [0]
    return allowed


def two_tinctures(first, second):
    return [(first, TINCTURES), (second, [t for t in TINCTURES if t != first])]


def plain(tincture):
    return [(0, [0, 1, 2]), (tincture, TINCTURES)]


def parted(way, line, first, second):
    return [(1, [0, 1, 2]), (way, list(range(8))), (line, LINES)] + two_tinctures(first, second)


def varied(way, pieces, line, first, second):
    lines = [0] if way in (5, 6) else LINES
    head = [(2, [0, 1, 2]), (way, list(range(7))), (pieces, list(range(2, 25))), (line, lines)]
    return head + two_tinctures(first, second)


def ordinary(figure, line, fill):
    """A layer; the fill is a field's cells, or None: counterchanged."""
    return [(0, FLAG), (figure, list(range(13))), (line, LINES)], fill


def group(charge, many, manner, size, fill):
    head = [(1, FLAG), (charge, list(range(16))), (many, list(range(1, 11)))]
    return head + [(manner, list(range(7))), (size, [1, 2, 3, 4])], fill


def arms(field, *layers):
    cells = field + [(len(layers), list(range(9)))]
    fills = [0] if field[0][0] == 0 else FLAG
    for head, fill in layers:
        cells = cells + head
        if fill is None:
            cells = cells + [(1, fills)]
        else:
            cells = cells + [(0, fills)] + fill
    return cells


def marked(own, canton=None, marks=()):
    cells = [(0, 1)] + own
    if canton is None:
        cells = cells + [(0, FLAG)]
    else:
        cells = cells + [(1, FLAG)] + canton
    cells = cells + [(len(marks), list(range(61)))]
    for g, k in marks:
        cells = cells + [(g, list(range(128))), (k, list(range(1, 256)))]
    return cells


def coat_of(tincture):
    return marked(arms(plain(tincture)))


def inside(cells):
    return [(byte, allowed + 1) if isinstance(allowed, int) else (byte, allowed) for byte, allowed in cells]


def quarterly(*coats):
    cells = [(1, 1), (len(coats), list(range(2, 10)))]
    for coat in coats:
        cells = cells + inside(coat)
    return cells


def impaled(dexter, sinister):
    return [(2, 1)] + inside(dexter) + inside(sinister)


def pretence(below, upon):
    return [(3, 1)] + inside(below) + inside(upon)
