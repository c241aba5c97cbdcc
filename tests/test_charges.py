"""Point 2: the charges, each at all of its own points."""

import unittest

from heraldcoats.coats import at
from tests.helper import arms, bytes_of, group, marked, plain


HAS = [
    lambda x, y: x * x + y * y < 2304,
    lambda x, y: 1024 <= x * x + y * y < 2304,
    lambda x, y: 4 * abs(x) + 3 * abs(y) < 144,
    lambda x, y: 60 <= 4 * abs(x) + 3 * abs(y) < 144,
    lambda x, y: 3 * abs(x) + abs(y) < 48,
    lambda x, y: abs(x) < 24 and abs(y) < 44,
    lambda x, y: (y <= 24 and 7 * abs(x) <= 4 * (y + 48)) or (-24 <= y and 7 * abs(x) <= 4 * (48 - y)),
    lambda x, y: x * x + y * y < 2304 and x * x + (y + 18) * (y + 18) >= 1444,
    lambda x, y: x * x + y * y < 2304 and (x + 18) * (x + 18) + y * y >= 1444,
    lambda x, y: (abs(x) < 14 and abs(y) < 44) or (abs(y) < 14 and abs(x) < 44),
    lambda x, y: abs(abs(x) - abs(y)) < 14 and abs(x) < 40 and abs(y) < 40,
    lambda x, y: abs(x) < 32 and -40 <= y and 2 * abs(x) + y < 72,
    lambda x, y: (abs(x) < 30 and -20 <= y < 44) or (-40 <= y < -20 and (abs(x) < 8 or 22 <= abs(x) < 38)),
    lambda x, y: (abs(x) < 4 and abs(y) < 46) or (abs(x) < 20 and 18 <= y < 26),
    lambda x, y: 1156 <= x * x + y * y < 2304 or (x * x + y * y < 1156 and (abs(x) < 5 or abs(y) < 5)),
    lambda x, y: (abs(x) < 4 and abs(y) < 46) or (-46 <= y < -16 and 2 * abs(x) < y + 48)
    or (30 <= y < 46 and abs(x) < 12),
]


def has(charge, x, y):
    return -48 <= x <= 48 and -48 <= y <= 48 and HAS[charge](x, y)


# Of each charge: own points that it has, own points that it hasn't.
EDGES = [
    ([(0, 0), (47, 0), (0, -47), (33, 34)], [(-48, 0), (0, 48), (34, 34)]),
    ([(32, 0), (0, -32), (47, 0)], [(31, 0), (0, 0), (0, -48)]),
    ([(35, 0), (0, 47), (0, -47)], [(36, 0), (0, 48), (-36, 0)]),
    ([(15, 0), (0, 20), (35, 0)], [(14, 0), (0, 19), (36, 0)]),
    ([(15, 0), (0, 47), (-15, 2)], [(16, 0), (0, 48), (-15, 3)]),
    ([(23, 43), (-23, -43)], [(24, 0), (0, 44), (-24, 0), (0, -44)]),
    ([(0, -48), (0, 48), (41, 24), (-41, -24)], [(1, -48), (1, 48), (42, 24), (41, 25), (-41, -25), (30, 0)]),
    ([(0, 20), (38, -18), (0, 47)], [(0, 19), (37, -18), (0, -47), (0, 0)]),
    ([(20, 0), (-18, 38), (47, 0)], [(19, 0), (-18, 37), (-47, 0), (0, 0)]),
    ([(13, 43), (43, 13), (-13, -43), (-43, -13)], [(14, 14), (13, 44), (44, 13), (0, -44)]),
    ([(39, 39), (-39, 26), (13, 0), (0, -13)], [(40, 39), (39, 40), (-39, 25), (14, 0), (0, -14)]),
    ([(31, -40), (0, 48), (11, 48), (-31, 9)], [(32, 0), (0, -41), (12, 48), (0, 49), (0, 57), (-31, 10)]),
    ([(29, -20), (29, 43), (7, -40), (22, -21), (37, -40)],
     [(30, -20), (0, 44), (8, -21), (21, -21), (38, -40), (0, -41)]),
    ([(3, 45), (3, -45), (19, 18), (-19, 25)], [(4, 0), (0, 46), (20, 18), (19, 17), (19, 26)]),
    ([(34, 0), (0, 47), (4, 20), (20, -4), (24, 25)], [(5, 5), (-5, 33), (0, 48), (24, 23)]),
    ([(3, 45), (15, -17), (0, -46), (11, 30), (-11, 45)],
     [(4, 0), (16, -17), (15, -16), (1, -46), (0, -47), (12, 30), (11, 46), (11, 29)]),
]


class Charges(unittest.TestCase):
    def coat(self, charge):
        # A great one by itself has its middle at (240, 288) and five points of the shield to each of its own.
        return bytes_of(marked(arms(plain(0), group(charge, 1, 0, 4, plain(2)))))

    def test_edges(self):
        for charge, (inside, outside) in enumerate(EDGES):
            coat = self.coat(charge)
            for x, y in inside:
                self.assertEqual(at(240 + 5 * x, 288 + 5 * y, coat), [2], (charge, x, y))
            for x, y in outside:
                self.assertEqual(at(240 + 5 * x, 288 + 5 * y, coat), [0], (charge, x, y))

    def test_all_own_points(self):
        for charge in range(16):
            coat = self.coat(charge)
            for y in range(-57, 58):
                for x in range(-48, 48):
                    expected = [2 if has(charge, x, y) else 0]
                    self.assertEqual(at(240 + 5 * x, 288 + 5 * y, coat), expected, (charge, x, y))

    def test_points_between_own_points_are_rounded_down(self):
        for charge in range(16):
            coat = self.coat(charge)
            for r in (60, 200, 291, 300, 403):
                for p in range(480):
                    expected = [2 if has(charge, (p - 240) // 5, (r - 288) // 5) else 0]
                    self.assertEqual(at(p, r, coat), expected, (charge, p, r))
