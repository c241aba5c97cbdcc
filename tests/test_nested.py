"""Point 2: points of coats quarterly, impaled and on an escutcheon, and of coats in these."""

import unittest

from heraldcoats.coats import at
from tests.helper import (arms, busy, bytes_of, coat_of, cross_cut, impaled, marked, plain, pretence, quarterly,
                          tincture_at)


class Quarterly(unittest.TestCase):
    def test_where_each_coat_stands(self):
        for many in range(2, 10):
            cells = quarterly(*[coat_of(k) for k in range(many)])
            side = 2 if many <= 4 else 3
            for row in range(side):
                for column in range(side):
                    number = row * side + column
                    expected = number if number < many else 0
                    left, right = column * 480 // side, (column + 1) * 480 // side - 1
                    top, bottom = row * 576 // side, (row + 1) * 576 // side - 1
                    for point in ((left, top), (right, top), (left, bottom), (right, bottom)):
                        self.assertEqual(tincture_at(cells, point), expected, (many, point))

    def test_written_out(self):
        cells = quarterly(coat_of(2), coat_of(3))
        self.assertEqual([tincture_at(cells, point) for point in ((239, 287), (240, 287), (239, 288), (240, 288))],
                         [2, 3, 2, 2])
        cells = quarterly(coat_of(2), coat_of(3), coat_of(4))
        self.assertEqual([tincture_at(cells, point) for point in ((239, 287), (240, 287), (239, 288), (240, 288))],
                         [2, 3, 4, 2])
        cells = quarterly(*[coat_of(k) for k in range(5)])
        self.assertEqual([tincture_at(cells, point) for point in ((159, 191), (160, 191), (319, 0), (320, 0))],
                         [0, 1, 1, 2])
        self.assertEqual([tincture_at(cells, point) for point in ((0, 192), (160, 383), (320, 192), (0, 384))],
                         [3, 4, 0, 0])

    def test_at_which_point_of_a_coat(self):
        for many in range(2, 10):
            coats = [bytes_of(busy(k)) for k in range(many)]
            whole = bytes_of(quarterly(*[busy(k) for k in range(many)]))
            side = 2 if many <= 4 else 3
            for p, r in cross_cut((1, 100, 250, 301, 500), (2, 130, 239, 340)):
                number = r * side // 576 * side + p * side // 480
                coat = coats[number] if number < many else coats[0]
                self.assertEqual(at(p, r, whole), at(p * side % 480, r * side % 576, coat), (many, p, r))


class Impaled(unittest.TestCase):
    def test_its_edge(self):
        cells = impaled(coat_of(2), coat_of(3))
        points = ((0, 0), (239, 0), (239, 575), (240, 0), (240, 575), (479, 575))
        self.assertEqual([tincture_at(cells, point) for point in points], [2, 2, 2, 3, 3, 3])

    def test_at_which_point_of_a_coat(self):
        dexter, sinister = bytes_of(busy(1)), bytes_of(busy(2))
        whole = bytes_of(impaled(busy(1), busy(2)))
        for p, r in cross_cut((1, 100, 250, 500), (2, 130, 239, 240, 340)):
            half = at(2 * p, r, dexter) if p < 240 else at(2 * (p - 240), r, sinister)
            self.assertEqual(at(p, r, whole), half, (p, r))


class Pretence(unittest.TestCase):
    def test_its_edges(self):
        cells = pretence(coat_of(2), coat_of(3))
        inside = ((160, 192), (319, 192), (160, 383), (319, 383))
        outside = ((159, 192), (160, 191), (320, 192), (319, 384), (160, 384), (159, 383), (0, 0), (479, 575))
        self.assertEqual([tincture_at(cells, point) for point in inside], [3] * 4)
        self.assertEqual([tincture_at(cells, point) for point in outside], [2] * 8)

    def test_at_which_point_of_a_coat(self):
        below, upon = bytes_of(busy(3)), bytes_of(busy(4))
        whole = bytes_of(pretence(busy(3), busy(4)))
        for p, r in cross_cut((1, 192, 250, 300, 383, 500), (2, 160, 239, 319, 340)):
            if 160 <= p < 320 and 192 <= r < 384:
                expected = at(3 * (p - 160), 3 * (r - 192), upon)
            else:
                expected = at(p, r, below)
            self.assertEqual(at(p, r, whole), expected, (p, r))


# Ways to put a second coat beside or on a first: the bytes; whether a point is of the second; at which of its points.
PAIRS = [
    (quarterly, lambda p, r: p >= 240 and r < 288, lambda p, r: (2 * p - 480, 2 * r)),
    (impaled, lambda p, r: p >= 240, lambda p, r: (2 * p - 480, r)),
    (pretence, lambda p, r: 160 <= p < 320 and 192 <= r < 384, lambda p, r: (3 * p - 480, 3 * r - 576)),
]


class FourDeep(unittest.TestCase):
    def test_each_kind_in_each(self):
        leaf = bytes_of(busy(7))
        for outer in PAIRS:
            for middle in PAIRS:
                for inner in PAIRS:
                    whole = outer[0](coat_of(0), middle[0](coat_of(1), inner[0](coat_of(2), busy(7))))
                    self.compare(bytes_of(whole), leaf, (outer, middle, inner))

    def compare(self, whole, leaf, pairs):
        deepest = 0
        for x, y in cross_cut((30, 72, 120, 144, 216, 240, 264, 288), (360,)):
            p, r, depth = x, y, 0
            while depth < 3 and pairs[depth][1](p, r):
                p, r = pairs[depth][2](p, r)
                depth += 1
            expected = [depth] if depth < 3 else at(p, r, leaf)
            deepest = max(deepest, depth)
            self.assertEqual(at(x, y, whole), expected, (x, y))
        self.assertEqual(deepest, 3)

    def test_written_out(self):
        deep = impaled(coat_of(0), pretence(coat_of(1), quarterly(coat_of(2), coat_of(3), coat_of(4), coat_of(5))))
        # Sinister, (2 (p - 240), r); then 160 <= p < 320 and 192 <= r < 384 of that; then the quarters.
        points = ((239, 288), (240, 288), (319, 192), (320, 192), (359, 287), (360, 287), (359, 288), (360, 288),
                  (399, 383), (400, 383), (399, 384))
        self.assertEqual([tincture_at(deep, point) for point in points], [0, 1, 1, 2, 2, 3, 4, 5, 5, 1, 1])

    def test_a_band_within(self):
        cells = quarterly(coat_of(0), marked(arms(plain(2)), None, [(0, 1)]))
        # The second coat's points are (2 p - 480, 2 r): its band ends at r of 48, its first slot at p of 244.
        points = ((240, 0), (243, 2), (244, 0), (240, 3), (479, 47), (240, 48), (239, 0))
        self.assertEqual([tincture_at(cells, point) for point in points], [1, 1, 9, 9, 9, 2, 0])
