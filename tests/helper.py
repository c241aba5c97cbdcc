"""Builds coats for the tests, and looks at their points.

A coat is built as a list of cells. A cell is a byte and what could stand in its place, behind the bytes before it:
a list of numbers, or, for the first byte of a coat, how deep that coat stands in the whole (from 1).
"""

from heraldcoats.coats import at

TINCTURES = list(range(9))
LINES = list(range(6))
FLAG = [0, 1]


def bytes_of(cells):
    return [byte for byte, allowed in cells]


def allowed_in(cell):
    allowed = cell[1]
    if isinstance(allowed, int):
        return [0, 1, 2, 3] if allowed < 4 else [0]
    return allowed


def two_tinctures(first, second):
    return [(first, TINCTURES), (second, [t for t in TINCTURES if t != first])]


def plain(tincture):
    return [(0, [0, 1, 2]), (tincture, TINCTURES)]


def parted(way, line, first, second):
    return [(1, [0, 1, 2]), (way, list(range(8))), (line, LINES)] + two_tinctures(first, second)


def varied(way, pieces, line, first, second):
    lines = [0] if way in (5, 6) else LINES
    head = [(2, [0, 1, 2]), (way, list(range(7))), (pieces, list(range(2, 25))), (line, lines)]
    return head + two_tinctures(first, second)


def ordinary(figure, line, fill):
    """A layer; the fill is a field's cells, or None: counterchanged."""
    return [(0, FLAG), (figure, list(range(13))), (line, LINES)], fill


def group(charge, many, manner, size, fill):
    head = [(1, FLAG), (charge, list(range(16))), (many, list(range(1, 11)))]
    return head + [(manner, list(range(7))), (size, [1, 2, 3, 4])], fill


def arms(field, *layers):
    cells = field + [(len(layers), list(range(9)))]
    fills = [0] if field[0][0] == 0 else FLAG
    for head, fill in layers:
        cells = cells + head
        if fill is None:
            cells = cells + [(1, fills)]
        else:
            cells = cells + [(0, fills)] + fill
    return cells


def marked(own, canton=None, marks=()):
    cells = [(0, 1)] + own
    if canton is None:
        cells = cells + [(0, FLAG)]
    else:
        cells = cells + [(1, FLAG)] + canton
    cells = cells + [(len(marks), list(range(61)))]
    for g, k in marks:
        cells = cells + [(g, list(range(128))), (k, list(range(1, 256)))]
    return cells


def coat_of(tincture):
    return marked(arms(plain(tincture)))


def busy(k):
    """Coats that differ from one another and have many edges."""
    field = parted(7, k % 6, k % 9, (k + 1) % 9)
    mullets = group((k + 6) % 16, 5, 0, 3, varied(5, 9 + k, 0, (k + 2) % 9, (k + 3) % 9))
    return marked(arms(field, mullets), arms(varied(k % 5, 7, 1, (k + 4) % 9, (k + 5) % 9)), [(k, 3 * k + 1)] * 5)


def inside(cells):
    return [(byte, allowed + 1) if isinstance(allowed, int) else (byte, allowed) for byte, allowed in cells]


def quarterly(*coats):
    cells = [(1, 1), (len(coats), list(range(2, 10)))]
    for coat in coats:
        cells = cells + inside(coat)
    return cells


def impaled(dexter, sinister):
    return [(2, 1)] + inside(dexter) + inside(sinister)


def pretence(below, upon):
    return [(3, 1)] + inside(below) + inside(upon)


def parts_of(cells):
    """The bytes of each part, in the order in which they're told."""
    parts = []
    for byte, allowed in cells:
        if isinstance(allowed, int):
            parts.append([])
        parts[-1].append(byte)
    return [part for part in parts if part[0] == 0]


WAVE = [0, 2, 4, 6, 7, 8, 9, 10, 11, 12, 12, 12, 12, 12, 12, 12, 11, 10, 9, 8, 7, 6, 4, 2]
SCALLOP = [12, 8, 4, 1, -2, -4, -6, -8, -10, -11, -12, -12, -12, -12, -12, -11, -10, -8, -6, -4, -2, 1, 4, 8]
# Each line's s(t), written out over 48 steps.
OFFSETS = [
    [0] * 48,
    WAVE + [-s for s in WAVE],
    [12] * 24 + [-12] * 24,
    list(range(-12, 12)) + list(range(12, -12, -1)),
    SCALLOP * 2,
    [-s for s in SCALLOP] * 2,
]


def lying_off(line):
    """The line's s, as a function of t."""
    return lambda t: OFFSETS[line][t % 48]


def cross_cut(rows, columns):
    """All points of some rows and of some columns of the shield."""
    return [(p, r) for r in rows for p in range(480)] + [(p, r) for p in columns for r in range(576)]


CUT = cross_cut((0, 31, 100, 289, 430, 575), (0, 17, 150, 241, 333, 479))


def wrong_points(cells, expected, points):
    """The points where the coat has another tincture than expected(p, r), with what was answered."""
    numbers = bytes_of(cells)
    return [(p, r, at(p, r, numbers)) for p, r in points if at(p, r, numbers) != [expected(p, r)]]


def tincture_at(cells, point):
    answer = at(point[0], point[1], bytes_of(cells))
    return answer[0] if len(answer) == 1 else answer
