"""Point 2: the groups: each manner, each number of charges, each size."""

import unittest

from heraldcoats.coats import at
from tests.helper import arms, bytes_of, cross_cut, group, marked, plain, tincture_at, wrong_points

ROWS = ["1", "2", "21", "22", "212", "321", "331", "323", "333", "4321"]


def across(k, many):
    return 480 * (2 * k + 1) // (2 * many)


def down(k, many):
    return 576 * (2 * k + 1) // (2 * many)


def middles(manner, many):
    if manner == 0:
        rows = [int(digit) for digit in ROWS[many - 1]]
        return [(across(j, wide), down(i, len(rows))) for i, wide in enumerate(rows) for j in range(wide)]
    return [[(across(k, many), 288), (240, down(k, many)), (across(k, many), down(k, many)),
             (480 - across(k, many), down(k, many)), (across(k, many), 80), (across(k, many), 504)][manner - 1]
            for k in range(many)]


# The half-sides before size, written out: of each manner, of one charge to ten.
HALVES = [
    [240, 120, 120, 120, 96, 80, 80, 80, 80, 60],
    [84, 84, 80, 60, 48, 40, 34, 30, 26, 24],
    [72, 72, 72, 72, 57, 48, 41, 36, 32, 28],
    [96, 96, 80, 60, 48, 40, 34, 30, 26, 24],
    [96, 96, 80, 60, 48, 40, 34, 30, 26, 24],
    [72, 72, 72, 60, 48, 40, 34, 30, 26, 24],
    [64, 64, 64, 60, 48, 40, 34, 30, 26, 24],
]

# Middles written out: the manner, how many, where they stand.
WRITTEN = [
    (0, 1, [(240, 288)]),
    (0, 2, [(120, 288), (360, 288)]),
    (0, 3, [(120, 144), (360, 144), (240, 432)]),
    (0, 4, [(120, 144), (360, 144), (120, 432), (360, 432)]),
    (0, 5, [(120, 96), (360, 96), (240, 288), (120, 480), (360, 480)]),
    (0, 6, [(80, 96), (240, 96), (400, 96), (120, 288), (360, 288), (240, 480)]),
    (0, 7, [(80, 96), (240, 96), (400, 96), (80, 288), (240, 288), (400, 288), (240, 480)]),
    (0, 8, [(80, 96), (240, 96), (400, 96), (120, 288), (360, 288), (80, 480), (240, 480), (400, 480)]),
    (0, 9, [(80, 96), (240, 96), (400, 96), (80, 288), (240, 288), (400, 288), (80, 480), (240, 480), (400, 480)]),
    (0, 10, [(60, 72), (180, 72), (300, 72), (420, 72), (80, 216), (240, 216), (400, 216), (120, 360), (360, 360),
             (240, 504)]),
    (1, 3, [(80, 288), (240, 288), (400, 288)]),
    (1, 7, [(34, 288), (102, 288), (171, 288), (240, 288), (308, 288), (377, 288), (445, 288)]),
    (2, 3, [(240, 96), (240, 288), (240, 480)]),
    (3, 3, [(80, 96), (240, 288), (400, 480)]),
    (4, 3, [(400, 96), (240, 288), (80, 480)]),
    (4, 7, [(446, 41), (378, 123), (309, 205), (240, 288), (172, 370), (103, 452), (35, 534)]),
    (5, 2, [(120, 80), (360, 80)]),
    (6, 2, [(120, 504), (360, 504)]),
]


def in_billet(x, y):
    return abs(x) < 24 and abs(y) < 44


def on_billets(manner, many, half, p, r):
    return any(in_billet((p - m) * 48 // half, (r - n) * 48 // half) for m, n in middles(manner, many))


class Groups(unittest.TestCase):
    def test_middles_of_the_tests_own_table(self):
        for manner, many, written in WRITTEN:
            self.assertEqual(middles(manner, many), written, (manner, many))

    def test_charges_stand_at_written_middles(self):
        for manner, many, written in WRITTEN:
            cells = marked(arms(plain(0), group(0, many, manner, 1, plain(2))))
            half = HALVES[manner][many - 1] // 4
            for m, n in written:
                self.assertEqual(tincture_at(cells, (m, n)), 2, (manner, many, m, n))
                for p, r in ((m - half, n), (m + half, n), (m, n - half), (m, n + half)):
                    self.assertEqual(tincture_at(cells, (p, r)), 0, (manner, many, p, r))

    def test_each_manner_number_and_size(self):
        for manner in range(7):
            for many in range(1, 11):
                places = middles(manner, many)
                points = cross_cut((places[0][1],), (places[-1][0] + 2,))
                for size in range(1, 5):
                    half = HALVES[manner][many - 1] * size // 4
                    cells = marked(arms(plain(0), group(5, many, manner, size, plain(2))))
                    wrong = wrong_points(
                        cells, lambda p, r: 2 if on_billets(manner, many, half, p, r) else 0, points)
                    self.assertEqual(wrong[:3], [], (manner, many, size))

    def test_every_charge_of_a_group(self):
        for manner in range(7):
            for many in range(1, 11):
                half = HALVES[manner][many - 1] * 3 // 4
                coat = bytes_of(marked(arms(plain(0), group(5, many, manner, 3, plain(2)))))
                for m, n in middles(manner, many):
                    for p in range(max(m - half - 2, 0), min(m + half + 2, 480)):
                        expected = 2 if on_billets(manner, many, half, p, n) else 0
                        self.assertEqual(at(p, n, coat), [expected], (manner, many, p, n))

    def test_own_points_are_rounded_down(self):
        # Three small fusils in fess: h is 20, so 6 to dexter is -14.4, which is -15, and 7 is -16.8, which is -17.
        coat = bytes_of(marked(arms(plain(0), group(4, 3, 1, 1, plain(2)))))
        self.assertEqual([at(240 + step, 288, coat)[0] for step in (-7, -6, 6, 7)], [0, 2, 2, 0])
        # 18 up is -43.2, which is -44; 18 down is 43.2, which is 43: a billet has only the latter.
        coat = bytes_of(marked(arms(plain(0), group(5, 3, 1, 1, plain(2)))))
        self.assertEqual([at(240, 288 + step, coat)[0] for step in (-18, -17, 18, 19)], [0, 2, 2, 0])
        self.assertEqual([at(240 + step, 288, coat)[0] for step in (-10, -9, 9, 10)], [0, 2, 2, 0])

    def test_the_least_of_all(self):
        # Ten small ones in fess have h = 6: eight own points to each of the shield's.
        coat = bytes_of(marked(arms(plain(0), group(0, 10, 1, 1, plain(2)))))
        self.assertEqual([at(24 + step, 288, coat)[0] for step in (-6, -5, 0, 5, 6)], [0, 2, 2, 2, 0])
        self.assertEqual([at(456, 288 + step, coat)[0] for step in (-6, -5, 0, 5, 6)], [0, 2, 2, 2, 0])
