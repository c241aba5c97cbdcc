"""Builds coats for the tests, looks at their points, and has them along with their words.

A coat is built as a list of cells. A cell is a byte and what could stand in its place, behind the bytes before it:
a list of numbers, or, for the first byte of a coat, how deep that coat stands in the whole (from 1).
"""

from heraldcoats.coats import at, read

TINCTURES = list(range(9))
LINES = list(range(6))
FLAG = [0, 1]


def bytes_of(cells):
    return [byte for byte, allowed in cells]


def allowed_in(cell):
    allowed = cell[1]
    if isinstance(allowed, int):
        return [0, 1, 2, 3] if allowed < 4 else [0]
    return allowed


def two_tinctures(first, second):
    return [(first, TINCTURES), (second, [t for t in TINCTURES if t != first])]


def plain(tincture):
    return [(0, [0, 1, 2]), (tincture, TINCTURES)]


def parted(way, line, first, second):
    return [(1, [0, 1, 2]), (way, list(range(8))), (line, LINES)] + two_tinctures(first, second)


def varied(way, pieces, line, first, second):
    lines = [0] if way in (5, 6) else LINES
    head = [(2, [0, 1, 2]), (way, list(range(7))), (pieces, list(range(2, 25))), (line, lines)]
    return head + two_tinctures(first, second)


def ordinary(figure, line, fill):
    """A layer; the fill is a field's cells, or None: counterchanged."""
    return [(0, FLAG), (figure, list(range(13))), (line, LINES)], fill


def group(charge, many, manner, size, fill):
    head = [(1, FLAG), (charge, list(range(16))), (many, list(range(1, 11)))]
    return head + [(manner, list(range(7))), (size, [1, 2, 3, 4])], fill


def arms(field, *layers):
    cells = field + [(len(layers), list(range(9)))]
    fills = [0] if field[0][0] == 0 else FLAG
    for head, fill in layers:
        cells = cells + head
        if fill is None:
            cells = cells + [(1, fills)]
        else:
            cells = cells + [(0, fills)] + fill
    return cells


def marked(own, canton=None, marks=()):
    cells = [(0, 1)] + own
    if canton is None:
        cells = cells + [(0, FLAG)]
    else:
        cells = cells + [(1, FLAG)] + canton
    cells = cells + [(len(marks), list(range(61)))]
    for g, k in marks:
        cells = cells + [(g, list(range(128))), (k, list(range(1, 256)))]
    return cells


def coat_of(tincture):
    return marked(arms(plain(tincture)))


def busy(k):
    """Coats that differ from one another and have many edges."""
    field = parted(7, k % 6, k % 9, (k + 1) % 9)
    mullets = group((k + 6) % 16, 5, 0, 3, varied(5, 9 + k, 0, (k + 2) % 9, (k + 3) % 9))
    return marked(arms(field, mullets), arms(varied(k % 5, 7, 1, (k + 4) % 9, (k + 5) % 9)), [(k, 3 * k + 1)] * 5)


def inside(cells):
    return [(byte, allowed + 1) if isinstance(allowed, int) else (byte, allowed) for byte, allowed in cells]


def quarterly(*coats):
    cells = [(1, 1), (len(coats), list(range(2, 10)))]
    for coat in coats:
        cells = cells + inside(coat)
    return cells


def impaled(dexter, sinister):
    return [(2, 1)] + inside(dexter) + inside(sinister)


def pretence(below, upon):
    return [(3, 1)] + inside(below) + inside(upon)


def parts_of(cells):
    """The bytes of each part, in the order in which they're told."""
    parts = []
    for byte, allowed in cells:
        if isinstance(allowed, int):
            parts.append([])
        parts[-1].append(byte)
    return [part for part in parts if part[0] == 0]


WAVE = [0, 2, 4, 6, 7, 8, 9, 10, 11, 12, 12, 12, 12, 12, 12, 12, 11, 10, 9, 8, 7, 6, 4, 2]
SCALLOP = [12, 8, 4, 1, -2, -4, -6, -8, -10, -11, -12, -12, -12, -12, -12, -11, -10, -8, -6, -4, -2, 1, 4, 8]
# Each line's s(t), written out over 48 steps.
OFFSETS = [
    [0] * 48,
    WAVE + [-s for s in WAVE],
    [12] * 24 + [-12] * 24,
    list(range(-12, 12)) + list(range(12, -12, -1)),
    SCALLOP * 2,
    [-s for s in SCALLOP] * 2,
]


def lying_off(line):
    """The line's s, as a function of t."""
    return lambda t: OFFSETS[line][t % 48]


def cross_cut(rows, columns):
    """All points of some rows and of some columns of the shield."""
    return [(p, r) for r in rows for p in range(480)] + [(p, r) for p in columns for r in range(576)]


CUT = cross_cut((0, 31, 100, 289, 430, 575), (0, 17, 150, 241, 333, 479))


def wrong_points(cells, expected, points):
    """The points where the coat has another tincture than expected(p, r), with what was answered."""
    numbers = bytes_of(cells)
    return [(p, r, at(p, r, numbers)) for p, r in points if at(p, r, numbers) != [expected(p, r)]]


def tincture_at(cells, point):
    answer = at(point[0], point[1], bytes_of(cells))
    return answer[0] if len(answer) == 1 else answer


TINCTURE_WORDS = ["or", "argent", "gules", "azure", "sable", "vert", "purpure", "ermine", "vair"]
# Each with the blank that stands before what follows it.
LINE_WORDS = ["", "wavy ", "embattled ", "indented ", "engrailed ", "invected "]
PARTED_WORDS = ["per pale", "per fess", "per bend", "per bend sinister", "per chevron", "per saltire", "quarterly",
                "gyronny"]
VARIED_WORDS = ["barry", "paly", "bendy", "bendy sinister", "chevronny", "chequy", "lozengy"]
ORDINARY_WORDS = ["a chief", "a base", "a pale", "a fess", "a bend", "a bend sinister", "a chevron", "a cross",
                  "a saltire", "a pile", "a bordure", "a canton", "a quarter"]
ONE_WORDS = ["a roundel", "an annulet", "a lozenge", "a mascle", "a fusil", "a billet", "a mullet", "a crescent",
             "an increscent", "a crosslet", "a saltorel", "an escutcheon", "a tower", "a sword", "a wheel", "an arrow"]
SEVERAL_WORDS = ["roundels", "annulets", "lozenges", "mascles", "fusils", "billets", "mullets", "crescents",
                 "increscents", "crosslets", "saltorels", "escutcheons", "towers", "swords", "wheels", "arrows"]
MANY_WORDS = ["two", "three", "four", "five", "six", "seven", "eight", "nine", "ten"]
MANNER_WORDS = ["", "in fess ", "in pale ", "in bend ", "in bend sinister ", "in chief ", "in base "]
SIZE_WORDS = {1: "small ", 2: "lesser ", 3: "", 4: "great "}


def signs(text):
    return [ord(sign) for sign in text]


def counted(numbers):
    return [len(numbers)] + numbers


def said_fields():
    """Fields, each with its words."""
    said = [(plain(tincture), word) for tincture, word in enumerate(TINCTURE_WORDS)]
    for first in range(9):
        for second in [tincture for tincture in range(9) if tincture != first]:
            pair = f"{TINCTURE_WORDS[first]} and {TINCTURE_WORDS[second]}"
            said.append((parted(1, 0, first, second), "per fess " + pair))
            said.append((varied(1, 7, 0, first, second), "paly of 7 " + pair))
    for line, behind in enumerate(LINE_WORDS):
        for way, head in enumerate(PARTED_WORDS):
            said.append((parted(way, line, 0, 2), f"{head} {behind}or and gules"))
        for way, head in enumerate(VARIED_WORDS):
            for pieces in range(2, 25):
                if way < 5 or line == 0:
                    said.append((varied(way, pieces, line, 8, 1), f"{head} of {pieces} {behind}vair and argent"))
    return said


def said_group(charge, many, manner, size):
    """A group's layer without its fill, with its words."""
    if many > 1:
        words = f"{MANY_WORDS[many - 2]} {SIZE_WORDS[size]}{SEVERAL_WORDS[charge]} {MANNER_WORDS[manner]}"
    elif size == 3:
        words = f"{ONE_WORDS[charge]} {MANNER_WORDS[manner]}"
    else:
        words = f"a {SIZE_WORDS[size]}{ONE_WORDS[charge].split()[1]} {MANNER_WORDS[manner]}"
    return lambda fill: group(charge, many, manner, size, fill), words


def said_layers():
    """Layers that stand over a parted or varied field, each with its words."""
    fills = [(None, "counterchanged"), (plain(4), "sable"),
             (varied(3, 12, 5, 7, 5), "bendy sinister of 12 invected ermine and vert")]
    heads = []
    for figure, head in enumerate(ORDINARY_WORDS):
        for line, behind in enumerate(LINE_WORDS):
            heads.append((lambda fill, figure=figure, line=line: ordinary(figure, line, fill), f"{head} {behind}"))
    for charge in range(16):
        for many in range(1, 11):
            for manner in range(7):
                for size in range(1, 5):
                    heads.append(said_group(charge, many, manner, size))
    return [(head(fill), words + behind) for k, (head, words) in enumerate(heads)
            for fill, behind in (fills if k % 16 < 3 else fills[:1])]


def said_arms():
    """Arms, each with its blazon."""
    said = [(arms(field), words) for field, words in said_fields()]
    field, words = parted(3, 1, 6, 0), "per bend sinister wavy purpure and or"
    layers = said_layers()
    said += [(arms(field, layer), f"{words}, {behind}") for layer, behind in layers]
    said += [(arms(plain(0), ordinary(2, 0, fill)), "or, a pale " + behind) for fill, behind in said_fields()]
    said += [(arms(plain(0), group(9, 3, 0, 3, fill)), "or, three crosslets " + behind)
             for fill, behind in said_fields()]
    for many in range(9):
        some = [layers[(many * 101 + k * 997) % len(layers)] for k in range(many)]
        said.append((arms(field, *[layer for layer, behind in some]),
                     ", ".join([words] + [behind for layer, behind in some])))
    return said


def said_marks(marks):
    return " marked" + "".join([f" {g}.{k}" for g, k in marks]) if marks else ""


def said_coats():
    """Coats of every kind, each with its words."""
    full = (arms(parted(0, 0, 1, 2), *[group(15, 10, 4, 4, None)] * 8),
            "per pale argent and gules" + ", ten great arrows in bend sinister counterchanged" * 8)
    some = [(arms(plain(0)), "or"),
            (arms(plain(3), ordinary(5, 4, plain(1))), "azure, a bend sinister engrailed argent"),
            full]
    rows = [[], [(0, 1)], [(127, 255)], [(0, 255), (127, 1), (5, 10)], [(k, 4 * k + 1) for k in range(60)]]
    said = [(marked(own), f"({words})") for own, words in said_arms()]
    for own, words in some:
        for marks in rows:
            said.append((marked(own, None, marks), f"({words})" + said_marks(marks)))
            said += [(marked(own, canton, marks), f"({words}) augmented ({more})" + said_marks(marks))
                     for canton, more in some]
    short = [(cells, words) for cells, words in said[-60:] if len(words) < 150]
    return said + said_nested(short[:6] + short[-5:])


def said_nested(ones):
    """Coats of these marked arms, 2 to 4 deep: each kind in each, at either side."""
    def bundle(head, build):
        return lambda *coats: (build(*[cells for cells, words in coats]),
                               f"{head} [{'; '.join([words for cells, words in coats])}]")

    kinds = [bundle("quarterly", quarterly), bundle("impaled", impaled), bundle("pretence", pretence)]
    said = [kinds[0](*[ones[k % len(ones)] for k in range(many)]) for many in range(2, 10)]
    for outer in kinds:
        said.append(outer(ones[0], ones[1]))
        for middle in kinds:
            said += [outer(ones[2], middle(ones[3], ones[4])), outer(middle(ones[5], ones[6]), ones[7])]
            for inner in kinds:
                said += [outer(ones[8], middle(ones[9], inner(ones[10], ones[0]))),
                         outer(middle(inner(ones[1], ones[2]), ones[3]), ones[4])]
    return said


class Faults:
    """For test cases: texts that read refuses; a ^, itself no part of them, stands before the fault's place."""

    def tells(self, kind, text):
        self.assertEqual(text.count("^"), 1, text)
        self.assertEqual(read(signs(text.replace("^", ""))), [-kind, text.index("^")], text)
