"""Point 2: plain, parted and varied fields."""

import unittest

from tests.helper import CUT, arms, cross_cut, lying_off, marked, parted, plain, tincture_at, varied, wrong_points


def over(p, r):
    return 6 * p - 5 * r


def over_sinister(p, r):
    return 6 * (479 - p) - 5 * r


def along(p, r):
    return (5 * p + 6 * r) // 8


def along_sinister(p, r):
    return (5 * (479 - p) + 6 * r) // 8


PARTED = [
    lambda p, r, s: p < 240 + s(r),
    lambda p, r, s: r < 288 + s(p),
    lambda p, r, s: over(p, r) > 8 * s(along(p, r)),
    lambda p, r, s: over_sinister(p, r) > 8 * s(along_sinister(p, r)),
    lambda p, r, s: r < 192 + abs(p - 240) + s(p),
    lambda p, r, s: PARTED[2](p, r, s) == PARTED[3](p, r, s),
    lambda p, r, s: PARTED[0](p, r, s) == PARTED[1](p, r, s),
    lambda p, r, s: PARTED[5](p, r, s) != PARTED[6](p, r, s),
]

VARIED = [
    lambda p, r, s, n: (r + s(p)) * n // 576,
    lambda p, r, s, n: (p + s(r)) * n // 480,
    lambda p, r, s, n: (over(p, r) + 2880 + 8 * s(along(p, r))) * n // 5760,
    lambda p, r, s, n: (over_sinister(p, r) + 2880 + 8 * s(along_sinister(p, r))) * n // 5760,
    lambda p, r, s, n: (r - abs(p - 240) + 240 + s(p)) * n // 816,
    lambda p, r, s, n: p * n // 480 + r * ((6 * n + 4) // 5) // 576,
    lambda p, r, s, n: (6 * p + 5 * r) * n // 5760 + (over(p, r) + 2880) * n // 5760,
]

# Of each parted way by the straight line: points of the first tincture, points of the second.
PARTED_EDGES = [
    ([(0, 0), (239, 0), (239, 575)], [(240, 0), (240, 575), (479, 288)]),
    ([(0, 287), (479, 287), (240, 0)], [(0, 288), (479, 288), (240, 575)]),
    ([(1, 0), (6, 6), (479, 574), (479, 0)], [(0, 0), (5, 6), (479, 575), (0, 575)]),
    ([(478, 0), (473, 6), (0, 574), (0, 0)], [(479, 0), (474, 6), (0, 575), (479, 575)]),
    ([(240, 191), (0, 431), (479, 430), (239, 192)], [(240, 192), (0, 432), (479, 431), (239, 193)]),
    ([(240, 0), (240, 575), (1, 0), (478, 0)], [(0, 0), (479, 0), (0, 288), (479, 288)]),
    ([(0, 0), (239, 287), (240, 288), (479, 575)], [(240, 287), (239, 288), (479, 0), (0, 575)]),
    ([(240, 0), (0, 0), (0, 287), (0, 575), (239, 575)], [(239, 0), (479, 0), (0, 288), (240, 575), (479, 575)]),
]

# Of varied fields by the straight line: the way, how many pieces, points of the first, points of the second.
VARIED_EDGES = [
    (0, 6, [(0, 0), (479, 95), (0, 192), (0, 479)], [(0, 96), (479, 191), (0, 480), (0, 575)]),
    (0, 7, [(0, 82), (0, 165)], [(0, 83), (0, 164)]),
    (1, 6, [(0, 0), (79, 575), (160, 0), (399, 0)], [(80, 0), (159, 575), (400, 0), (479, 0)]),
    (1, 7, [(68, 0), (138, 0)], [(69, 0), (137, 0)]),
    (2, 2, [(0, 1), (5, 7), (479, 575)], [(0, 0), (5, 6), (479, 574)]),
    (2, 4, [(0, 289), (0, 575), (0, 0), (239, 0)], [(0, 288), (0, 1), (240, 0), (479, 0)]),
    (3, 2, [(479, 1), (474, 7), (0, 575)], [(479, 0), (474, 6), (0, 574)]),
    (4, 2, [(240, 0), (240, 167), (0, 0), (0, 407)], [(240, 168), (240, 575), (0, 408), (0, 575)]),
    (4, 3, [(240, 31), (240, 304)], [(240, 32), (240, 303)]),
    (5, 5, [(95, 95), (96, 96), (0, 0)], [(96, 95), (95, 96), (383, 0)]),
    (5, 6, [(79, 71), (80, 72), (479, 575)], [(80, 71), (79, 72), (0, 575)]),
    (5, 4, [(0, 115), (120, 116)], [(0, 116), (120, 115)]),
    (6, 2, [(0, 1), (240, 288), (239, 288), (479, 574)], [(0, 0), (240, 289), (240, 287), (479, 575)]),
]


class Plain(unittest.TestCase):
    def test_one_tincture_everywhere(self):
        for tincture in range(9):
            cells = marked(arms(plain(tincture)))
            self.assertEqual(wrong_points(cells, lambda p, r: tincture, cross_cut((0, 288, 575), (0, 479))), [])


class Parted(unittest.TestCase):
    def test_edges_by_the_straight_line(self):
        for way, (first, second) in enumerate(PARTED_EDGES):
            cells = marked(arms(parted(way, 0, 7, 4)))
            for point in first:
                self.assertEqual(tincture_at(cells, point), 7, (way, point))
            for point in second:
                self.assertEqual(tincture_at(cells, point), 4, (way, point))

    def test_each_way_by_each_line(self):
        for way in range(8):
            for line in range(6):
                s = lying_off(line)
                cells = marked(arms(parted(way, line, 0, 2)))
                wrong = wrong_points(cells, lambda p, r: 0 if PARTED[way](p, r, s) else 2, CUT)
                self.assertEqual(wrong[:3], [], (way, line))

    def test_the_tinctures_may_be_any_two(self):
        for first in range(9):
            for second in range(9):
                if first != second:
                    cells = marked(arms(parted(0, 0, first, second)))
                    self.assertEqual([tincture_at(cells, (239, 0)), tincture_at(cells, (240, 0))], [first, second])


class Varied(unittest.TestCase):
    def test_edges_by_the_straight_line(self):
        for way, pieces, first, second in VARIED_EDGES:
            cells = marked(arms(varied(way, pieces, 0, 8, 3)))
            for point in first:
                self.assertEqual(tincture_at(cells, point), 8, (way, pieces, point))
            for point in second:
                self.assertEqual(tincture_at(cells, point), 3, (way, pieces, point))

    def test_each_way_by_each_line(self):
        for way in range(7):
            for line in range(6 if way < 5 else 1):
                s = lying_off(line)
                for pieces in (2, 5, 24):
                    cells = marked(arms(varied(way, pieces, line, 0, 2)))
                    wrong = wrong_points(cells, lambda p, r: [0, 2][VARIED[way](p, r, s, pieces) % 2], CUT)
                    self.assertEqual(wrong[:3], [], (way, line, pieces))

    def test_each_number_of_pieces(self):
        points = cross_cut((300,), (200,))
        for way in range(7):
            for pieces in range(2, 25):
                cells = marked(arms(varied(way, pieces, 0, 0, 2)))
                wrong = wrong_points(cells, lambda p, r: [0, 2][VARIED[way](p, r, lying_off(0), pieces) % 2], points)
                self.assertEqual(wrong[:3], [], (way, pieces))

    def test_pieces_are_rounded_down_below_none(self):
        # The line lies off by -12 here, so the number is -1: an odd one.
        self.assertEqual(tincture_at(marked(arms(varied(0, 6, 1, 0, 2))), (36, 0)), 2)
        self.assertEqual(tincture_at(marked(arms(varied(0, 6, 1, 0, 2))), (36, 11)), 2)
        self.assertEqual(tincture_at(marked(arms(varied(0, 6, 1, 0, 2))), (36, 12)), 0)
        self.assertEqual(tincture_at(marked(arms(varied(1, 6, 2, 0, 2))), (11, 24)), 2)
        self.assertEqual(tincture_at(marked(arms(varied(1, 6, 2, 0, 2))), (12, 24)), 0)
