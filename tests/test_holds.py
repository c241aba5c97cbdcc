"""What holds over the whole program: the band and its marks, points and parts, bytes and words."""

import unittest

from heraldcoats.coats import at, check, count, part, read, words
from tests.helper import (arms, bytes_of, busy, coat_of, counted, impaled, marked, ordinary, parted, parts_of,
                          plain, pretence, quarterly, said_coats, signs, varied)

MURREY = 9
# The middles of the band's cells.
CELLS = [(8 * slot + 4, 6 * cell + 3) for slot in range(60) for cell in range(16)]


def picture(numbers, points):
    return [at(p, r, numbers) for p, r in points]


def every_kind():
    return [busy(0), coat_of(3), quarterly(busy(1), coat_of(2), busy(3)), impaled(busy(4), busy(5)),
            pretence(busy(6), busy(7)),
            quarterly(impaled(pretence(busy(8), coat_of(0)), busy(9)), busy(10), quarterly(busy(1), busy(2)))]


class Band(unittest.TestCase):
    def test_the_marks_can_be_told_from_it(self):
        for marks in ([(0, 1)], [(127, 255)] * 60, [(k * 7 % 128, k * 11 % 255 + 1) for k in range(33)]):
            for canton in (None, arms(parted(0, 0, 1, 2))):
                numbers = bytes_of(marked(arms(parted(0, 0, 1, 2), ordinary(0, 0, None)), canton, marks))
                told = []
                for slot in range(60):
                    bits = sum([1 << cell for cell in range(16) if at(8 * slot, 6 * cell, numbers) == [1]])
                    told.append((bits // 256, bits % 256))
                # No mark's second number is 0, so the slots behind the marks are told apart from them.
                self.assertEqual(told, marks + [(0, 0)] * (60 - len(marks)))

    def test_coats_that_differ_in_marks_differ_at_some_point(self):
        own = arms(parted(6, 0, 1, 4))
        rows = [[], [(0, 1)], [(0, 1), (0, 1)], [(1, 1)], [(0, 2)], [(64, 1)], [(0, 128)], [(0, 1)] * 59, [(0, 1)] * 60,
                [(0, 1)] * 59 + [(0, 3)]]
        pictures = [picture(bytes_of(marked(own, None, marks)), CELLS) for marks in rows]
        for k, one in enumerate(pictures):
            self.assertNotIn(one, pictures[:k])

    def test_murrey_is_the_marks_alone(self):
        for cells in (marked(arms(parted(6, 0, 7, 8))), marked(arms(plain(6)), arms(varied(5, 24, 0, 7, 8)))):
            self.assertNotIn([MURREY], picture(bytes_of(cells), [(p, r) for p in range(0, 480, 8)
                                                                 for r in range(0, 576, 6)]))
        cells = marked(arms(plain(6)), arms(plain(7)), [(127, 255)])
        self.assertNotIn([MURREY], picture(bytes_of(cells), [(p, r) for p in range(0, 480, 8)
                                                             for r in range(96, 576, 6)]))

    def test_arms_that_differ_below_differ_whatever_canton_and_marks_they_have(self):
        base, bare = arms(plain(0), ordinary(1, 0, plain(2))), arms(plain(0))
        for canton in (None, arms(plain(3))):
            for marks in ([], [(5, 5)]):
                pictures = [picture(bytes_of(marked(own, canton, marks)), [(240, 500)]) for own in (base, bare)]
                self.assertEqual(pictures, [[[2]], [[0]]])


class Points(unittest.TestCase):
    def test_each_is_of_one_part_and_has_its_tincture(self):
        points = [(p, r) for p in range(0, 480, 13) for r in range(0, 576, 17)] + [(479, 575)]
        for cells in every_kind():
            numbers, parts = bytes_of(cells), parts_of(cells)
            for p, r in points:
                number, x, y = part(p, r, numbers)
                self.assertTrue(0 <= number < count(numbers)[0] and 0 <= x < 480 and 0 <= y < 576)
                self.assertEqual(at(p, r, numbers), at(x, y, parts[number]))
                self.assertIn(at(p, r, numbers), [[tincture] for tincture in range(10)])

    def test_each_coat_of_a_quartered_one_has_its_place(self):
        for many in range(2, 10):
            numbers = bytes_of(quarterly(*[coat_of(k) for k in range(many)]))
            met = [at(p, r, numbers)[0] for p in range(40, 480, 80) for r in range(48, 576, 96)]
            self.assertEqual(sorted(set(met)), list(range(many)))

    def test_each_half_of_an_impaled_one_is_whole(self):
        own = busy(3)
        alone = bytes_of(own)
        for cells, left in ((impaled(own, coat_of(0)), 0), (impaled(coat_of(0), own), 240)):
            numbers = bytes_of(cells)
            for p in range(0, 240, 7):
                for r in range(0, 576, 11):
                    self.assertEqual(at(left + p, r, numbers), at(2 * p, r, alone))


class BytesAndWords(unittest.TestCase):
    def test_they_say_one_coat(self):
        seen = {}
        for cells, text in said_coats():
            numbers = bytes_of(cells)
            self.assertEqual(check(numbers), [0])
            self.assertEqual(read(words(numbers)[1:]), counted(numbers))
            # Two coats that differ never have the same words.
            self.assertEqual(seen.setdefault(tuple(words(numbers)), numbers), numbers)

    def test_what_is_read_is_printed_in_the_one_form(self):
        for loose, text in (
                ("(or)", "(or)"),
                ("\n( barry  of6or and gules ,an  annulet\nargent)marked1.2\n3.4 ",
                 "(barry of 6 or and gules, an annulet argent) marked 1.2 3.4"),
                (" impaled[(or)augmented(gules);pretence [\n(or); ( vair )] ] ",
                 "impaled [(or) augmented (gules); pretence [(or); (vair)]]")):
            answer = read(signs(loose))
            self.assertEqual(words(answer[1:]), counted(signs(text)))
            self.assertEqual(read(signs(text)), answer)

    def test_what_is_read_is_well_made(self):
        for cells, text in said_coats()[::7]:
            answer = read(signs(text))
            self.assertEqual(check(answer[1:]), [0])

    def test_either_fault_is_the_first(self):
        for cells in every_kind():
            numbers = bytes_of(cells)
            text = words(numbers)[1:]
            for place in range(len(numbers)):
                # 255 may stand as a mark's second number, but never twice in a row.
                kind, told = check(numbers[:place] + [255] * 9)
                self.assertEqual(kind, -1)
                self.assertIn(told, (place, place + 1))
            for place in range(len(text)):
                kind, told = read(text[:place] + [255] + text[place:])
                self.assertIn(-kind, (1, 3, 4, 10))
                # The byte itself, or the word or number that it cuts off.
                self.assertTrue(told == place or (told < place and bytes(text[told:place]).isalnum()))


class Refused(unittest.TestCase):
    def test_every_call_that_is_handed_a_coat_tells_the_same_place(self):
        for numbers in ([], [9], [0, 0, 9, 0, 0, 0], [2, 0, 0, 2, 0, 0, 0], [0] * 7, [255] * 2000):
            place = check(numbers)
            self.assertEqual(place[0], -1)
            self.assertEqual([at(0, 0, numbers), at(480, 0, numbers), part(0, 0, numbers), count(numbers),
                              words(numbers)], [place] * 5)
