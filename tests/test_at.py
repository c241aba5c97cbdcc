"""Point 2: at as it is called: corners, refusals, what is handed in."""

import unittest

from heraldcoats.coats import at
from tests.helper import (arms, bytes_of, coat_of, group, impaled, marked, ordinary, parted, plain, pretence, quarterly,
                          varied)

FAR = 4294967295


def samples():
    rich = arms(parted(6, 4, 1, 2), group(14, 7, 0, 4, None), ordinary(10, 1, varied(6, 11, 0, 7, 8)))
    return [bytes_of(cells) for cells in (
        coat_of(6),
        marked(rich, arms(plain(3)), [(1, 2), (3, 4)]),
        quarterly(coat_of(0), marked(rich), coat_of(2)),
        impaled(coat_of(4), pretence(coat_of(5), marked(rich))),
    )]


class Called(unittest.TestCase):
    def test_corners(self):
        coat = bytes_of(marked(arms(parted(6, 0, 0, 2), ordinary(11, 0, plain(3)))))
        self.assertEqual(at(0, 0, coat), [3])
        self.assertEqual(at(479, 0, coat), [2])
        self.assertEqual(at(0, 575, coat), [2])
        self.assertEqual(at(479, 575, coat), [0])

    def test_p_comes_first(self):
        coat = bytes_of(marked(arms(parted(0, 0, 0, 2))))
        self.assertEqual([at(100, 300, coat), at(300, 100, coat)], [[0], [2]])

    def test_no_such_point(self):
        for coat in samples():
            for p, r in ((480, 0), (0, 576), (480, 575), (479, 576), (480, 576), (FAR, 0), (0, FAR), (FAR, FAR)):
                self.assertEqual(at(p, r, coat), [-2], (p, r))
            for p, r in ((479, 0), (0, 575), (479, 575)):
                self.assertIn(at(p, r, coat), [[tincture] for tincture in range(10)])

    def test_no_coat_comes_before_no_such_point(self):
        for p, r in ((0, 0), (479, 575), (480, 0), (0, 576), (FAR, FAR)):
            self.assertEqual(at(p, r, []), [-1, 0])
            self.assertEqual(at(p, r, [4]), [-1, 0])
            self.assertEqual(at(p, r, [0, 0, 9, 0, 0, 0]), [-1, 2])
            self.assertEqual(at(p, r, [0, 0, 8, 0, 0]), [-1, 5])
            self.assertEqual(at(p, r, [0, 0, 8, 0, 0, 0, 0]), [-1, 6])
            self.assertEqual(at(p, r, [0, 1, 0, 0, 3, 3, 0, 0, 0]), [-1, 5])

    def test_a_fault_far_from_the_point_is_told_all_the_same(self):
        for coat in samples():
            for end in range(len(coat)):
                self.assertEqual(at(0, 0, coat[:end]), [-1, end])

    def test_handed_in_as_it_was_and_the_same_again(self):
        for coat in samples():
            for handed in (coat, coat[:-1], coat + [0]):
                for p, r in ((0, 0), (100, 50), (240, 288), (479, 575), (480, 0), (0, FAR)):
                    before = list(handed)
                    answer = at(p, r, handed)
                    self.assertEqual(handed, before)
                    self.assertEqual(at(p, r, handed), answer)
                    self.assertEqual(handed, before)

    def test_plain_whole_numbers_in_a_list(self):
        for coat in samples() + [[]]:
            for p, r in ((0, 0), (300, 200), (480, 0)):
                answer = at(p, r, coat)
                self.assertIs(type(answer), list)
                for number in answer:
                    self.assertIs(type(number), int)

    def test_nothing_is_kept(self):
        red, blue = bytes_of(coat_of(2)), bytes_of(coat_of(3))
        self.assertEqual([at(5, 5, red), at(5, 5, blue), at(5, 5, []), at(480, 5, red), at(5, 5, red)],
                         [[2], [3], [-1, 0], [-2], [2]])
        changed = list(red)
        self.assertEqual(at(5, 5, changed), [2])
        changed[2] = 4
        self.assertEqual(at(5, 5, changed), [4])
