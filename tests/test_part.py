"""Point 3: part: which part a point is of, and at which of its points."""

import unittest

from heraldcoats.coats import at, part
from tests.helper import (arms, busy, bytes_of, coat_of, cross_cut, impaled, marked, ordinary, parted, parts_of, plain,
                          pretence, quarterly)

FAR = 4294967295
CORNERS = [(0, 0), (479, 0), (0, 575), (479, 575)]


def answers(cells, points):
    numbers = bytes_of(cells)
    return [part(p, r, numbers) for p, r in points]


def numbers_at(cells, points):
    return [answer[0] for answer in answers(cells, points)]


def six():
    """Quarterly of two, the first impaled, the second with an escutcheon that is quarterly of three."""
    return quarterly(impaled(coat_of(0), coat_of(1)),
                     pretence(coat_of(2), quarterly(coat_of(3), coat_of(4), coat_of(5))))


def samples():
    rich = marked(arms(parted(6, 4, 1, 2), ordinary(10, 1, plain(3))), arms(plain(3)), [(1, 2), (3, 4)])
    return [bytes_of(cells) for cells in (coat_of(6), rich, quarterly(coat_of(0), rich, coat_of(2)),
                                          impaled(coat_of(4), rich), pretence(rich, coat_of(1)), six())]


class Told:
    """A coat told along with where its points are: its cells, its parts' names in order, and a function from a point
    to the name of its part and a point of that, which goes by rectangles."""

    def __init__(self, cells, names, find):
        self.cells = cells
        self.names = names
        self.find = find

    def expected(self, p, r):
        name, x, y = self.find(p, r)
        return [self.names.index(name), x, y]


def one(name):
    return Told(coat_of(0), [name], lambda p, r: (name, p, r))


def names_of(coats):
    return [name for coat in coats for name in coat.names]


def told_quarterly(*coats):
    side = 2 if len(coats) <= 4 else 3
    wide, high = 480 // side, 576 // side

    def find(p, r):
        for number in range(side * side):
            left, top = number % side * wide, number // side * high
            if left <= p < left + wide and top <= r < top + high:
                coat = coats[number] if number < len(coats) else coats[0]
                return coat.find((p - left) * side, (r - top) * side)

    return Told(quarterly(*[coat.cells for coat in coats]), names_of(coats), find)


def told_impaled(first, second):
    def find(p, r):
        return first.find(p + p, r) if p <= 239 else second.find(p + p - 480, r)

    return Told(impaled(first.cells, second.cells), names_of([first, second]), find)


def told_pretence(below, upon):
    def find(p, r):
        if p in range(160, 320) and r in range(192, 384):
            return upon.find(3 * p - 480, 3 * r - 576)
        return below.find(p, r)

    return Told(pretence(below.cells, upon.cells), names_of([below, upon]), find)


class MarkedAlone(unittest.TestCase):
    def test_part_0_at_the_point_itself(self):
        points = CORNERS + [(1, 0), (0, 1), (240, 288), (17, 503)]
        for tincture in range(9):
            self.assertEqual(answers(coat_of(tincture), points), [[0, p, r] for p, r in points])

    def test_in_the_band_and_in_the_canton(self):
        points = cross_cut((0, 5, 95, 96, 287, 288), (0, 7, 159, 160))
        own, other = arms(plain(0), ordinary(11, 0, plain(2))), arms(plain(4))
        for cells in (marked(own, None, [(127, 255)] * 60), marked(own, other), marked(own, other, [(0, 1)])):
            self.assertEqual(answers(cells, points), [[0, p, r] for p, r in points])

    def test_p_comes_first(self):
        self.assertEqual(part(100, 300, bytes_of(coat_of(0))), [0, 100, 300])
        self.assertEqual(part(300, 100, bytes_of(coat_of(0))), [0, 300, 100])


class Quarterly(unittest.TestCase):
    def test_edges_of_each_of_two_to_nine(self):
        for many in range(2, 10):
            cells = quarterly(*[coat_of(k) for k in range(many)])
            side = 2 if many <= 4 else 3
            for place in range(side * side):
                left, top = place % side * (480 // side), place // side * (576 // side)
                right, bottom = left + 480 // side - 1, top + 576 // side - 1
                number = place if place < many else 0
                self.assertEqual(answers(cells, [(left, top), (right, top), (left, bottom), (right, bottom)]),
                                 [[number, 0, 0], [number, 480 - side, 0], [number, 0, 576 - side],
                                  [number, 480 - side, 576 - side]], (many, place))

    def test_of_two_written_out(self):
        points = [(239, 287), (240, 287), (239, 288), (240, 288), (479, 575)]
        self.assertEqual(answers(quarterly(coat_of(2), coat_of(3)), points),
                         [[0, 478, 574], [1, 0, 574], [0, 478, 0], [0, 0, 0], [0, 478, 574]])

    def test_of_seven_written_out(self):
        cells = quarterly(*[coat_of(k) for k in range(7)])
        points = [(159, 191), (160, 191), (319, 193), (320, 200), (1, 384), (160, 384), (479, 575)]
        self.assertEqual(answers(cells, points), [[0, 477, 573], [1, 0, 573], [4, 477, 3], [5, 0, 24], [6, 3, 0],
                                                  [0, 0, 0], [0, 477, 573]])

    def test_where_there_is_none_it_is_of_the_firsts_parts(self):
        cells = quarterly(impaled(coat_of(0), coat_of(1)), coat_of(2), coat_of(3))
        points = [(240, 288), (359, 288), (360, 288), (479, 575), (240, 287), (239, 288)]
        self.assertEqual(answers(cells, points),
                         [[0, 0, 0], [0, 476, 0], [1, 0, 0], [1, 476, 574], [2, 0, 574], [3, 478, 0]])

    def test_within_another_the_first_ones_number_is_told(self):
        cells = impaled(quarterly(coat_of(0), coat_of(1), coat_of(2)), quarterly(coat_of(3), coat_of(4)))
        points = [(120, 288), (240, 288), (360, 288), (479, 575), (360, 287)]
        self.assertEqual(numbers_at(cells, points), [0, 3, 3, 3, 4])

    def test_each_coat_has_its_place(self):
        for many in range(2, 10):
            cells = quarterly(*[coat_of(k) for k in range(many)])
            points = [(p, r) for p in range(0, 480, 40) for r in range(0, 576, 48)]
            self.assertEqual(sorted(set(numbers_at(cells, points))), list(range(many)))


class Impaled(unittest.TestCase):
    def test_its_edges(self):
        points = [(0, 0), (239, 0), (0, 575), (239, 575), (240, 0), (479, 0), (240, 575), (479, 575)]
        self.assertEqual(answers(impaled(coat_of(2), coat_of(3)), points),
                         [[0, 0, 0], [0, 478, 0], [0, 0, 575], [0, 478, 575],
                          [1, 0, 0], [1, 478, 0], [1, 0, 575], [1, 478, 575]])


class Pretence(unittest.TestCase):
    def test_its_edges(self):
        cells = pretence(coat_of(2), coat_of(3))
        self.assertEqual(answers(cells, [(160, 192), (319, 192), (160, 383), (319, 383), (161, 193)]),
                         [[1, 0, 0], [1, 477, 0], [1, 0, 573], [1, 477, 573], [1, 3, 3]])
        outside = CORNERS + [(159, 192), (160, 191), (320, 192), (319, 191), (160, 384), (159, 383), (319, 384),
                             (320, 383)]
        self.assertEqual(answers(cells, outside), [[0, p, r] for p, r in outside])

    def test_the_one_below_is_numbered_first(self):
        cells = pretence(impaled(coat_of(0), coat_of(1)), impaled(coat_of(2), coat_of(3)))
        points = [(0, 0), (159, 288), (160, 288), (239, 288), (240, 288), (319, 288), (320, 288), (479, 0)]
        self.assertEqual(numbers_at(cells, points), [0, 0, 2, 2, 3, 3, 1, 1])


class Nested(unittest.TestCase):
    def same(self, told, points):
        numbers = bytes_of(told.cells)
        wrong = [(p, r, part(p, r, numbers)) for p, r in points if part(p, r, numbers) != told.expected(p, r)]
        self.assertEqual(wrong[:3], [])

    def test_written_out(self):
        # The second quarter's points are (2 p - 480, 2 r): its escutcheon is at 320 <= p < 400, 96 <= r < 192.
        points = [(0, 0), (119, 287), (120, 0), (239, 287), (240, 0), (319, 96), (320, 95), (320, 96), (359, 143),
                  (360, 96), (320, 144), (360, 144), (399, 191), (400, 191), (0, 288), (240, 288), (360, 288)]
        self.assertEqual(numbers_at(six(), points), [0, 0, 1, 1, 2, 2, 2, 3, 3, 4, 5, 3, 3, 2, 0, 0, 1])
        # (361, 101): (242, 202) of the second quarter, (246, 30) on its escutcheon, (12, 60) of the second there.
        self.assertEqual(part(361, 101, bytes_of(six())), [4, 12, 60])

    def test_all_parts_ahead_are_told(self):
        ninefold = told_quarterly(*[one(("ninefold", k)) for k in range(9)])
        fourfold = told_quarterly(*[one(("fourfold", k)) for k in range(4)])
        borne = told_pretence(told_quarterly(*[one(("below", k)) for k in range(5)]),
                              told_impaled(one("dexter upon"), one("sinister upon")))
        points = cross_cut((0, 95, 100, 191, 192, 250, 287, 288, 330, 400, 575), (0, 79, 130, 239, 240, 333, 410, 479))
        for told in (told_quarterly(ninefold, fourfold, borne, one("last")),
                     told_quarterly(borne, one("between"), ninefold, one("more"), fourfold),
                     told_impaled(ninefold, borne), told_impaled(borne, fourfold),
                     told_pretence(ninefold, borne), told_pretence(borne, ninefold),
                     told_impaled(told_impaled(ninefold, fourfold), borne)):
            self.same(told, points)

    def test_each_kind_in_each_four_deep_at_either_side(self):
        kinds = (told_quarterly, told_impaled, told_pretence)
        points = cross_cut((10, 72, 144, 216, 240, 264, 288, 500), (100, 225, 255, 360))
        for outer in kinds:
            for middle in kinds:
                for inner in kinds:
                    deep = inner(one("a"), one("b"))
                    self.same(outer(one("c"), middle(one("d"), deep)), points)
                    self.same(outer(one("c"), middle(deep, one("d"))), points)
                    self.same(outer(middle(one("d"), deep), one("c")), points)
                    self.same(outer(middle(deep, one("d")), one("c")), points)

    def test_as_many_parts_as_bytes_can_tell(self):
        # 1 + 9 + 30 coats quarterly, each of 9 but one of 8: 320 parts of 6 bytes.
        def leaves(many, name):
            return told_quarterly(*[one((name, k)) for k in range(many)])

        whole = []
        for k in range(9):
            wide = 4 if k < 3 else 3
            inner = [leaves(8 if (k, j) == (8, 2) else 9, (k, j)) for j in range(wide)]
            whole.append(told_quarterly(*inner, *[one((k, "plain", j)) for j in range(9 - wide)]))
        told = told_quarterly(*whole)
        self.assertEqual((len(told.cells), len(told.names)), (2000, 320))
        numbers = bytes_of(told.cells)
        # The middle of each of 27 by 27 small shields, so that every part is met.
        met = []
        for row in range(27):
            for column in range(27):
                p, r = (480 * column + 240) // 27, (576 * row + 288) // 27
                answer = part(p, r, numbers)
                self.assertEqual(answer, told.expected(p, r), (p, r))
                met.append(answer[0])
        self.assertEqual(sorted(set(met)), list(range(320)))

    def test_the_part_has_there_the_tincture_that_the_whole_has(self):
        for cells in (busy(0), quarterly(busy(1), impaled(busy(2), busy(3)), busy(4)),
                      pretence(quarterly(busy(5), busy(6)), impaled(busy(7), pretence(busy(8), busy(9))))):
            numbers, parts = bytes_of(cells), parts_of(cells)
            for p, r in cross_cut((3, 40, 200, 260, 300, 500), (5, 130, 245)):
                number, x, y = part(p, r, numbers)
                self.assertEqual(at(x, y, parts[number]), at(p, r, numbers), (p, r))


class Called(unittest.TestCase):
    def test_no_such_point(self):
        for coat in samples():
            for p, r in ((480, 0), (0, 576), (480, 575), (479, 576), (480, 576), (FAR, 0), (0, FAR), (FAR, FAR)):
                self.assertEqual(part(p, r, coat), [-2], (p, r))
            for p, r in CORNERS:
                self.assertEqual(len(part(p, r, coat)), 3)

    def test_no_coat_comes_before_no_such_point(self):
        for p, r in ((0, 0), (479, 575), (480, 0), (0, 576), (FAR, FAR)):
            self.assertEqual(part(p, r, []), [-1, 0])
            self.assertEqual(part(p, r, [4]), [-1, 0])
            self.assertEqual(part(p, r, [1, 10]), [-1, 1])
            self.assertEqual(part(p, r, [0, 0, 9, 0, 0, 0]), [-1, 2])
            self.assertEqual(part(p, r, [0, 0, 8, 0, 0]), [-1, 5])
            self.assertEqual(part(p, r, [0, 0, 8, 0, 0, 0, 0]), [-1, 6])
            self.assertEqual(part(p, r, [2, 2, 2, 2]), [-1, 3])
            self.assertEqual(part(p, r, [0] * 2000), [-1, 6])

    def test_a_fault_far_from_the_point_is_told_all_the_same(self):
        for coat in samples():
            for end in range(len(coat)):
                self.assertEqual(part(0, 0, coat[:end]), [-1, end])

    def test_handed_in_as_it_was_and_the_same_again(self):
        for coat in samples():
            for handed in (coat, coat[:-1], coat + [0]):
                for p, r in ((0, 0), (100, 50), (240, 288), (479, 575), (480, 0), (0, FAR)):
                    before = list(handed)
                    answer = part(p, r, handed)
                    self.assertEqual(handed, before)
                    self.assertEqual(part(p, r, handed), answer)
                    self.assertEqual(handed, before)

    def test_plain_whole_numbers_in_a_list(self):
        for coat in samples() + [[]]:
            for p, r in ((0, 0), (300, 200), (480, 0)):
                answer = part(p, r, coat)
                self.assertIs(type(answer), list)
                for number in answer:
                    self.assertIs(type(number), int)

    def test_nothing_is_kept(self):
        alone, both = bytes_of(coat_of(2)), bytes_of(impaled(coat_of(2), coat_of(3)))
        self.assertEqual([part(300, 5, both), part(300, 5, alone), part(5, 5, []), part(480, 5, both),
                          part(300, 5, both)], [[1, 120, 5], [0, 300, 5], [-1, 0], [-2], [1, 120, 5]])
        changed = list(both)
        self.assertEqual(part(200, 200, changed), [0, 400, 200])
        changed[0] = 3
        self.assertEqual(part(200, 200, changed), [1, 120, 24])
        answer = part(0, 0, both)
        answer.append(7)
        self.assertEqual(part(0, 0, both), [0, 0, 0])
