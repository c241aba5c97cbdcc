"""Point 2: the lines, each over its whole period, as the edges of parted fields show them."""

import unittest

from tests.helper import OFFSETS, arms, lying_off, marked, parted, plain, ordinary, tincture_at


class Lines(unittest.TestCase):
    def test_every_line_down_the_shield(self):
        for line in range(6):
            s = lying_off(line)
            cells = marked(arms(parted(0, line, 0, 2)))
            for r in range(576):
                edge = 240 + s(r)
                self.assertEqual([tincture_at(cells, (edge - 1, r)), tincture_at(cells, (edge, r))], [0, 2], (line, r))

    def test_every_line_across_the_shield(self):
        for line in range(6):
            s = lying_off(line)
            cells = marked(arms(parted(1, line, 0, 2)))
            for p in range(480):
                edge = 288 + s(p)
                self.assertEqual([tincture_at(cells, (p, edge - 1)), tincture_at(cells, (p, edge))], [0, 2], (line, p))

    def test_every_line_along_the_diagonals(self):
        # Along them t goes up to 730, in steps of less than one.
        for line in range(6):
            s = lying_off(line)
            for figure, side in ((4, lambda p: p), (5, lambda p: 479 - p)):
                cells = marked(arms(plain(0), ordinary(figure, line, plain(2))))
                for p in range(0, 480, 7):
                    for r in range(0, 576, 11):
                        x = side(p)
                        has = abs(6 * x - 5 * r - 8 * s((5 * x + 6 * r) // 8)) < 800
                        self.assertEqual(tincture_at(cells, (p, r)), 2 if has else 0, (line, figure, p, r))

    def test_offsets_of_the_tests_own_table(self):
        for offsets in OFFSETS:
            self.assertEqual(len(offsets), 48)
        self.assertEqual([offsets[0] for offsets in OFFSETS], [0, 0, 12, -12, 12, -12])
        self.assertEqual([offsets[12] for offsets in OFFSETS], [0, 12, 12, 0, -12, 12])
        self.assertEqual([offsets[24] for offsets in OFFSETS], [0, 0, -12, 12, 12, -12])
        self.assertEqual([offsets[36] for offsets in OFFSETS], [0, -12, -12, 0, -12, 12])
