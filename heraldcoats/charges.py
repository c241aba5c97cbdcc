"""The charges: which of its own points, counted from its middle, each of them has."""

REACH = 48


def squared(x, y):
    return x * x + y * y


def roundel(x, y):
    return squared(x, y) < 2304


def annulet(x, y):
    return 1024 <= squared(x, y) < 2304


def lozenge(x, y):
    return 4 * abs(x) + 3 * abs(y) < 144


def mascle(x, y):
    return 60 <= 4 * abs(x) + 3 * abs(y) < 144


def fusil(x, y):
    return 3 * abs(x) + abs(y) < 48


def billet(x, y):
    return abs(x) < 24 and abs(y) < 44


def mullet(x, y):
    upward = y <= 24 and 7 * abs(x) <= 4 * (y + 48)
    downward = -24 <= y and 7 * abs(x) <= 4 * (48 - y)
    return upward or downward


def crescent(x, y):
    return squared(x, y) < 2304 and squared(x, y + 18) >= 1444


def increscent(x, y):
    return squared(x, y) < 2304 and squared(x + 18, y) >= 1444


def crosslet(x, y):
    return (abs(x) < 14 and abs(y) < 44) or (abs(y) < 14 and abs(x) < 44)


def saltorel(x, y):
    return abs(abs(x) - abs(y)) < 14 and abs(x) < 40 and abs(y) < 40


def escutcheon(x, y):
    return abs(x) < 32 and -40 <= y and 2 * abs(x) + y < 72


def tower(x, y):
    walls = abs(x) < 30 and -20 <= y < 44
    merlons = -40 <= y < -20 and (abs(x) < 8 or 22 <= abs(x) < 38)
    return walls or merlons


def sword(x, y):
    blade = abs(x) < 4 and abs(y) < 46
    hilt = abs(x) < 20 and 18 <= y < 26
    return blade or hilt


def wheel(x, y):
    rim = 1156 <= squared(x, y) < 2304
    spokes = squared(x, y) < 1156 and (abs(x) < 5 or abs(y) < 5)
    return rim or spokes


def arrow(x, y):
    shaft = abs(x) < 4 and abs(y) < 46
    head = -46 <= y < -16 and 2 * abs(x) < y + 48
    feathers = 30 <= y < 46 and abs(x) < 12
    return shaft or head or feathers


CHARGES = (roundel, annulet, lozenge, mascle, fusil, billet, mullet, crescent, increscent, crosslet, saltorel,
           escutcheon, tower, sword, wheel, arrow)


def charge_has(charge, x, y):
    if abs(x) > REACH or abs(y) > REACH:
        return False
    return CHARGES[charge](x, y)
