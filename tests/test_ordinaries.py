"""Point 2: the ordinaries."""

import unittest

from tests.helper import CUT, arms, lying_off, marked, ordinary, plain, tincture_at, wrong_points


def over(p, r, s):
    return abs(6 * p - 5 * r - 8 * s((5 * p + 6 * r) // 8))


def over_sinister(p, r, s):
    return abs(6 * (479 - p) - 5 * r - 8 * s((5 * (479 - p) + 6 * r) // 8))


HAS = [
    lambda p, r, s: r < 160 + s(p),
    lambda p, r, s: r >= 432 + s(p),
    lambda p, r, s: 168 + s(r) <= p < 312 + s(r),
    lambda p, r, s: 204 + s(p) <= r < 372 + s(p),
    lambda p, r, s: over(p, r, s) < 800,
    lambda p, r, s: over_sinister(p, r, s) < 800,
    lambda p, r, s: 0 <= r - 168 - abs(p - 240) - s(p) < 144,
    lambda p, r, s: 180 + s(r) <= p < 300 + s(r) or 228 + s(p) <= r < 348 + s(p),
    lambda p, r, s: over(p, r, s) < 560 or over_sinister(p, r, s) < 560,
    lambda p, r, s: 576 * abs(p - 240) < 160 * (576 - r) + 576 * s(r),
    lambda p, r, s: p < 48 + s(r) or p >= 432 - s(r) or r < 48 + s(p) or r >= 528 - s(p),
    lambda p, r, s: p < 176 + s(r) and r < 208 + s(p),
    lambda p, r, s: p < 240 + s(r) and r < 288 + s(p),
]

# Of each ordinary by the straight line: points that it has, points that it hasn't.
EDGES = [
    ([(0, 0), (479, 159)], [(0, 160), (479, 575)]),
    ([(0, 432), (479, 575)], [(0, 431), (479, 0)]),
    ([(168, 0), (311, 575)], [(167, 0), (312, 575)]),
    ([(0, 204), (479, 371)], [(0, 203), (479, 372)]),
    ([(133, 0), (0, 159), (479, 575), (479, 415)], [(134, 0), (0, 160), (479, 414), (479, 0)]),
    ([(346, 0), (479, 159), (0, 575), (0, 415)], [(345, 0), (479, 160), (0, 414), (0, 0)]),
    ([(240, 168), (240, 311), (0, 408), (0, 551)], [(240, 167), (240, 312), (0, 407), (0, 552)]),
    ([(180, 0), (299, 575), (0, 228), (479, 347)], [(179, 0), (300, 575), (0, 227), (479, 348)]),
    ([(93, 0), (0, 111), (386, 0), (479, 111)], [(94, 0), (0, 112), (385, 0), (479, 112)]),
    ([(81, 0), (399, 0), (240, 575)], [(80, 0), (400, 0), (239, 575), (241, 575)]),
    ([(47, 288), (432, 288), (240, 47), (240, 528)], [(48, 288), (431, 288), (240, 48), (240, 527)]),
    ([(0, 0), (175, 207)], [(176, 207), (175, 208)]),
    ([(0, 0), (239, 287)], [(240, 287), (239, 288)]),
]


class Ordinaries(unittest.TestCase):
    def test_edges_by_the_straight_line(self):
        for figure, (inside, outside) in enumerate(EDGES):
            cells = marked(arms(plain(1), ordinary(figure, 0, plain(5))))
            for point in inside:
                self.assertEqual(tincture_at(cells, point), 5, (figure, point))
            for point in outside:
                self.assertEqual(tincture_at(cells, point), 1, (figure, point))

    def test_each_by_each_line(self):
        for figure in range(13):
            for line in range(6):
                s = lying_off(line)
                cells = marked(arms(plain(0), ordinary(figure, line, plain(2))))
                wrong = wrong_points(cells, lambda p, r: 2 if HAS[figure](p, r, s) else 0, CUT)
                self.assertEqual(wrong[:3], [], (figure, line))
