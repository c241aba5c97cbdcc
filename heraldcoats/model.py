"""What coats are made of, as it is once their bytes have been taken in."""


class Plain:
    def __init__(self, tincture):
        self.tincture = tincture


class Parted:
    def __init__(self, way, line, first, second):
        self.way = way
        self.line = line
        self.first = first
        self.second = second


class Varied:
    def __init__(self, way, pieces, line, first, second):
        self.way = way
        self.pieces = pieces
        self.line = line
        self.first = first
        self.second = second


# The two kinds of layer; a fill of None means counterchanged.
class Ordinary:
    def __init__(self, figure, line, fill):
        self.figure = figure
        self.line = line
        self.fill = fill


class Group:
    def __init__(self, charge, many, manner, size, fill):
        self.charge = charge
        self.many = many
        self.manner = manner
        self.size = size
        self.fill = fill


class Arms:
    def __init__(self, field, layers):
        self.field = field
        self.layers = layers


class Mark:
    def __init__(self, g, k):
        self.g = g
        self.k = k


# A canton of None means that there is none.
class Marked:
    def __init__(self, arms, canton, marks):
        self.arms = arms
        self.canton = canton
        self.marks = marks


class Quarterly:
    def __init__(self, coats):
        self.coats = coats


class Impaled:
    def __init__(self, dexter, sinister):
        self.dexter = dexter
        self.sinister = sinister


class Pretence:
    def __init__(self, below, upon):
        self.below = below
        self.upon = upon
