"""The lines: how far an edge lies off, along t."""


# Half waves and scallops are both 24 long, with their middle here.
def from_scallop_middle(t):
    return t % 24 - 12


def in_first_half(t):
    return t % 48 < 24


def straight(t):
    return 0


def wavy(t):
    w = from_scallop_middle(t)
    if in_first_half(t):
        return 12 - w * w // 12
    return w * w // 12 - 12


def embattled(t):
    return 12 if in_first_half(t) else -12


def indented(t):
    u = t % 48
    return u - 12 if in_first_half(t) else 36 - u


def engrailed(t):
    w = from_scallop_middle(t)
    return w * w // 6 - 12


def invected(t):
    return -engrailed(t)


LINES = (straight, wavy, embattled, indented, engrailed, invected)


def offset(line, t):
    return LINES[line](t)
