"""Point 2: arms: layers over a field, their fills, counterchanged."""

import unittest

from tests.helper import CUT, arms, group, marked, ordinary, parted, plain, tincture_at, varied, wrong_points


class Layers(unittest.TestCase):
    def test_the_highest_layer_that_has_the_point(self):
        chief = ordinary(0, 0, plain(2))
        pale = ordinary(2, 0, plain(3))
        roundel = group(0, 1, 0, 2, plain(5))
        cells = marked(arms(plain(0), chief, pale, roundel))
        self.assertEqual(tincture_at(cells, (0, 0)), 2)
        self.assertEqual(tincture_at(cells, (240, 0)), 3)
        self.assertEqual(tincture_at(cells, (240, 288)), 5)
        self.assertEqual(tincture_at(cells, (0, 575)), 0)
        cells = marked(arms(plain(0), roundel, pale, chief))
        self.assertEqual(tincture_at(cells, (240, 0)), 2)
        self.assertEqual(tincture_at(cells, (240, 288)), 3)
        self.assertEqual(tincture_at(cells, (150, 288)), 5)

    def test_eight_layers(self):
        base = [ordinary(1, 0, plain(tincture)) for tincture in range(8)]
        cells = marked(arms(plain(8), *base))
        self.assertEqual([tincture_at(cells, (0, 431)), tincture_at(cells, (0, 432))], [8, 7])
        shrinking = [0, 2, 3, 7, 8, 10, 11, 12]
        cells = marked(arms(plain(8), *[ordinary(figure, 0, plain(k)) for k, figure in enumerate(shrinking)]))
        self.assertEqual(tincture_at(cells, (0, 0)), 7)
        self.assertEqual(tincture_at(cells, (440, 100)), 5)
        self.assertEqual(tincture_at(cells, (390, 120)), 4)
        self.assertEqual(tincture_at(cells, (250, 100)), 3)
        self.assertEqual(tincture_at(cells, (50, 360)), 2)
        self.assertEqual(tincture_at(cells, (305, 60)), 1)
        self.assertEqual(tincture_at(cells, (320, 60)), 0)
        self.assertEqual(tincture_at(cells, (60, 380)), 8)

    def test_no_layer_has_the_point(self):
        field = parted(1, 0, 0, 4)
        cells = marked(arms(field, ordinary(11, 0, plain(2)), group(0, 1, 6, 1, plain(3))))
        self.assertEqual([tincture_at(cells, (400, 287)), tincture_at(cells, (400, 288))], [0, 4])

    def test_a_layers_own_field_at_the_shields_point(self):
        fess = ordinary(3, 0, parted(0, 0, 2, 3))
        cells = marked(arms(plain(0), fess))
        self.assertEqual([tincture_at(cells, (239, 288)), tincture_at(cells, (240, 288))], [2, 3])
        paly = varied(1, 6, 0, 1, 2)
        cells = marked(arms(plain(0), ordinary(0, 0, paly)))
        self.assertEqual([tincture_at(cells, (p, 10)) for p in (79, 80, 159, 160)], [1, 2, 2, 1])
        roundels = group(0, 2, 1, 4, parted(1, 0, 2, 3))
        cells = marked(arms(plain(0), roundels))
        self.assertEqual([tincture_at(cells, (120, 287)), tincture_at(cells, (360, 288))], [2, 3])
        in_chief = group(0, 2, 5, 4, parted(1, 0, 2, 3))
        cells = marked(arms(plain(0), in_chief))
        self.assertEqual([tincture_at(cells, (120, 60)), tincture_at(cells, (120, 100))], [2, 2])

    def test_a_fills_line_is_its_own(self):
        fess = ordinary(3, 0, parted(0, 2, 2, 3))
        cells = marked(arms(parted(0, 0, 0, 1), fess))
        # 216 % 48 is 24, 240 % 48 is 0: the embattled edge lies 12 to dexter, then 12 to sinister.
        self.assertEqual([tincture_at(cells, (p, 216)) for p in (227, 228)], [2, 3])
        self.assertEqual([tincture_at(cells, (p, 240)) for p in (251, 252)], [2, 3])
        self.assertEqual([tincture_at(cells, (p, 203)) for p in (239, 240)], [0, 1])

    def test_an_ordinary_keeps_its_line_whatever_its_fill(self):
        fess = ordinary(3, 2, plain(2))
        cells = marked(arms(parted(0, 0, 0, 1), fess))
        self.assertEqual([tincture_at(cells, (0, r)) for r in (215, 216)], [0, 2])
        self.assertEqual([tincture_at(cells, (24, r)) for r in (191, 192)], [0, 2])


class Counterchanged(unittest.TestCase):
    def test_over_a_parted_field(self):
        cells = marked(arms(parted(0, 0, 0, 2), ordinary(3, 0, None)))
        self.assertEqual([tincture_at(cells, (239, 288)), tincture_at(cells, (240, 288))], [2, 0])
        self.assertEqual([tincture_at(cells, (239, 0)), tincture_at(cells, (240, 0))], [0, 2])

    def test_over_a_varied_field(self):
        cells = marked(arms(varied(1, 6, 0, 7, 4), group(0, 1, 0, 4, None)))
        self.assertEqual([tincture_at(cells, (p, 288)) for p in (79, 80, 160, 240)], [4, 7, 4, 7])
        self.assertEqual([tincture_at(cells, (p, 0)) for p in (79, 80, 160, 240)], [7, 4, 7, 4])

    def test_by_the_fields_own_tinctures_whatever_lies_between(self):
        between = ordinary(3, 0, plain(5))
        changed = ordinary(2, 0, None)
        cells = marked(arms(parted(0, 0, 0, 2), between, changed))
        self.assertEqual([tincture_at(cells, (p, 288)) for p in (167, 239, 240, 312)], [5, 2, 0, 5])
        twice = marked(arms(parted(0, 0, 0, 2), ordinary(3, 0, None), changed))
        self.assertEqual([tincture_at(twice, (p, 288)) for p in (167, 239, 240, 312)], [2, 2, 0, 0])
        other = marked(arms(parted(0, 0, 0, 2), ordinary(3, 0, parted(0, 0, 7, 8)), changed))
        self.assertEqual([tincture_at(other, (p, 288)) for p in (167, 239, 240, 312)], [7, 2, 0, 8])

    def test_every_way_has_its_other_tincture(self):
        fields = [parted(way, line, 0, 2) for way in range(8) for line in (0, 1)]
        fields += [varied(way, 7, 0, 0, 2) for way in range(7)]
        points = CUT[::7]
        for field in fields:
            bare = marked(arms(field))
            covered = marked(arms(field, ordinary(0, 0, None), ordinary(1, 0, None), ordinary(3, 0, None)))

            def expected(p, r):
                own = tincture_at(bare, (p, r))
                return 2 - own if r < 160 or 204 <= r < 372 or r >= 432 else own

            self.assertEqual(wrong_points(covered, expected, points)[:3], [])
