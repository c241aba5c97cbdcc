"""Point 2: marked arms: the band of marks, the canton, the arms."""

import unittest

from heraldcoats.coats import at
from tests.helper import (arms, bytes_of, cross_cut, group, marked, ordinary, parted, plain, tincture_at, varied,
                          wrong_points)

ARGENT = 1
MURREY = 9


def many_marks():
    return [((37 * k + 5) % 128, (91 * k) % 255 + 1) for k in range(60)]


class Band(unittest.TestCase):
    def test_every_slot_and_cell(self):
        for many in (1, 2, 31, 59, 60):
            marks = many_marks()[:many]
            coat = bytes_of(marked(arms(plain(0)), None, marks))
            for slot in range(60):
                for cell in range(16):
                    expected = MURREY
                    if slot < many and (256 * marks[slot][0] + marks[slot][1]) & (1 << cell):
                        expected = ARGENT
                    corners = [(8 * slot, 6 * cell), (8 * slot + 7, 6 * cell + 5)]
                    self.assertEqual([at(p, r, coat) for p, r in corners], [[expected]] * 2, (many, slot, cell))

    def test_each_bit_has_its_cell(self):
        for cell in range(15):
            bit = 1 << cell
            # k is never 0, so its lowest bit goes along with g's.
            mark = (0, bit) if cell < 8 else (bit >> 8, 1)
            coat = bytes_of(marked(arms(plain(0)), None, [mark]))
            lit = [row // 6 for row in range(0, 96, 6) if at(0, row, coat) == [ARGENT]]
            self.assertEqual(lit, [cell] if cell < 8 else [0, cell])

    def test_the_last_cell_is_never_argent(self):
        coat = bytes_of(marked(arms(plain(0)), None, [(127, 255)] * 60))
        for p in range(0, 480, 3):
            self.assertEqual([at(p, r, coat) for r in (0, 89, 90, 95)], [[ARGENT], [ARGENT], [MURREY], [MURREY]])

    def test_it_ends_at_row_96(self):
        cells = marked(arms(plain(0)), None, [(127, 255)])
        self.assertEqual([tincture_at(cells, (0, r)) for r in (95, 96)], [MURREY, 0])
        self.assertEqual([tincture_at(cells, (479, r)) for r in (0, 95, 96)], [MURREY, MURREY, 0])

    def test_slots_behind_the_marks(self):
        cells = marked(arms(plain(0)), None, [(127, 255)] * 3)
        self.assertEqual([tincture_at(cells, (p, 0)) for p in (0, 23, 24, 479)], [ARGENT, ARGENT, MURREY, MURREY])

    def test_no_marks_no_band(self):
        cells = marked(arms(plain(0)))
        self.assertEqual(wrong_points(cells, lambda p, r: 0, cross_cut((0, 50, 95), (0, 479))), [])

    def test_marks_cover_layers(self):
        cells = marked(arms(plain(0), ordinary(0, 0, plain(2))), None, [(0, 1)])
        self.assertEqual([tincture_at(cells, (0, r)) for r in (0, 6, 96, 159, 160)], [ARGENT, MURREY, 2, 2, 0])


class Canton(unittest.TestCase):
    def test_its_edges(self):
        for marks in ([], [(0, 2)]):
            cells = marked(arms(plain(0)), arms(plain(4)), marks)
            inside = [(0, 96), (159, 96), (0, 287), (159, 287)]
            outside = [(160, 96), (160, 287), (0, 288), (159, 288), (479, 575)]
            self.assertEqual([tincture_at(cells, point) for point in inside], [4] * 4)
            self.assertEqual([tincture_at(cells, point) for point in outside], [0] * 5)

    def test_above_it_stands_the_band_or_the_arms(self):
        above = [(0, 0), (0, 6), (159, 95)]
        cells = marked(arms(plain(0)), arms(plain(4)))
        self.assertEqual([tincture_at(cells, point) for point in above], [0, 0, 0])
        cells = marked(arms(plain(0)), arms(plain(4)), [(0, 1)])
        self.assertEqual([tincture_at(cells, point) for point in above], [ARGENT, MURREY, MURREY])

    def test_at_which_point_of_its_arms(self):
        own = arms(parted(7, 3, 0, 2), group(6, 5, 0, 3, varied(5, 9, 0, 3, 4)))
        alone = bytes_of(marked(own))
        for marks in ([], [(9, 9)]):
            both = bytes_of(marked(arms(plain(8)), own, marks))
            for r in range(96, 288, 5):
                for p in range(160):
                    self.assertEqual(at(p, r, both), at(3 * p, 3 * (r - 96), alone), (p, r))
            for p in range(0, 160, 9):
                for r in range(96, 288):
                    self.assertEqual(at(p, r, both), at(3 * p, 3 * (r - 96), alone), (p, r))

    def test_counterchanged_by_its_own_field(self):
        own = arms(parted(0, 0, 4, 5), ordinary(3, 0, None))
        cells = marked(arms(parted(0, 0, 0, 2), ordinary(2, 0, None)), own)
        self.assertEqual([tincture_at(cells, (p, 192)) for p in (79, 80)], [5, 4])
        self.assertEqual([tincture_at(cells, (p, 96)) for p in (79, 80)], [4, 5])
        self.assertEqual([tincture_at(cells, (p, 300)) for p in (239, 240)], [2, 0])
        cells = marked(arms(plain(0)), own)
        self.assertEqual([tincture_at(cells, (p, 192)) for p in (79, 80)], [5, 4])

    def test_an_ordinary_canton_is_none_of_these(self):
        cells = marked(arms(plain(0), ordinary(11, 0, plain(2))), arms(plain(4)))
        self.assertEqual([tincture_at(cells, point) for point in ((0, 0), (0, 96), (175, 96), (176, 96))], [2, 4, 2, 0])
