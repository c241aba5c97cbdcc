"""Point 1: check, and the first fault of bytes that are no well made coat's."""

import unittest

from heraldcoats.coats import check
from tests.helper import (allowed_in, arms, bytes_of, coat_of, group, impaled, marked, ordinary, parted, plain,
                          pretence, quarterly, varied)


def four_deep():
    """Coats of coats in coats in a coat: each kind outermost, in the middle, and third."""
    quartered = quarterly(coat_of(0), coat_of(1))
    halved = impaled(coat_of(2), coat_of(3))
    borne = pretence(coat_of(4), coat_of(5))
    return [
        quarterly(impaled(pretence(coat_of(0), coat_of(1)), coat_of(2)), coat_of(3)),
        impaled(coat_of(0), pretence(coat_of(1), quartered)),
        pretence(quarterly(coat_of(0), halved, coat_of(1)), coat_of(2)),
        pretence(coat_of(0), impaled(coat_of(1), borne)),
        quarterly(coat_of(0), quarterly(coat_of(1), quartered)),
    ]


def rich_arms():
    return arms(parted(7, 1, 0, 8), ordinary(12, 5, None), group(15, 10, 6, 4, varied(6, 24, 0, 3, 2)))


def samples():
    """Coats that together have every kind of byte that a coat may have, in each of its surroundings."""
    return [
        coat_of(0),
        marked(arms(parted(0, 0, 0, 1))),
        marked(arms(varied(4, 2, 5, 8, 0))),
        marked(arms(varied(5, 24, 0, 4, 5))),
        marked(arms(varied(6, 2, 0, 4, 5))),
        marked(arms(plain(1), ordinary(0, 0, plain(2)), group(0, 1, 0, 1, parted(2, 3, 4, 5)))),
        marked(rich_arms()),
        marked(arms(varied(0, 7, 2, 1, 0), group(3, 5, 2, 2, None), ordinary(5, 4, None))),
        marked(arms(plain(0)), rich_arms(), [(0, 1), (127, 255)]),
        marked(rich_arms(), arms(plain(4), ordinary(1, 1, varied(1, 12, 1, 2, 3))), [(64, 128)]),
        quarterly(marked(rich_arms()), coat_of(2), coat_of(3)),
    ] + four_deep()


class WellMade(unittest.TestCase):
    def well(self, cells):
        self.assertEqual(check(bytes_of(cells)), [0])

    def test_plain_fields(self):
        for tincture in range(9):
            self.well(coat_of(tincture))

    def test_parted_fields(self):
        for way in range(8):
            for line in range(6):
                self.well(marked(arms(parted(way, line, 0, 8))))

    def test_varied_fields(self):
        for pieces in range(2, 25):
            for way in range(7):
                for line in range(6 if way < 5 else 1):
                    self.well(marked(arms(varied(way, pieces, line, 8, 0))))

    def test_every_two_tinctures_that_differ(self):
        for first in range(9):
            for second in range(9):
                if first != second:
                    self.well(marked(arms(parted(0, 0, first, second))))
                    self.well(marked(arms(varied(0, 2, 0, first, second))))

    def test_ordinaries(self):
        for figure in range(13):
            for line in range(6):
                self.well(marked(arms(plain(0), ordinary(figure, line, plain(0)))))

    def test_groups(self):
        for charge in range(16):
            for many in range(1, 11):
                for manner in range(7):
                    for size in range(1, 5):
                        self.well(marked(arms(plain(0), group(charge, many, manner, size, plain(2)))))

    def test_fills(self):
        for field in (plain(0), parted(1, 2, 3, 4), varied(3, 20, 1, 7, 8)):
            for fill in (plain(0), parted(1, 2, 3, 4), varied(3, 20, 1, 7, 8)):
                self.well(marked(arms(field, ordinary(2, 0, fill), group(1, 1, 1, 1, fill))))
        for field in (parted(1, 2, 3, 4), varied(3, 20, 1, 7, 8)):
            self.well(marked(arms(field, ordinary(2, 0, None), group(1, 1, 1, 1, None))))

    def test_layers_from_none_to_eight(self):
        for many in range(9):
            self.well(marked(arms(plain(0), *[ordinary(2, 0, plain(3))] * many)))
            self.well(marked(arms(parted(0, 0, 1, 2), *[group(2, 2, 0, 3, None)] * many)))

    def test_cantons(self):
        self.well(marked(arms(plain(0)), arms(plain(2))))
        self.well(marked(rich_arms(), rich_arms()))

    def test_a_canton_with_eight_layers_on_arms_with_eight(self):
        full = arms(parted(0, 0, 1, 2), *[ordinary(2, 0, None)] * 8)
        self.well(marked(full, full, [(1, 1)] * 60))

    def test_marks_from_none_to_sixty(self):
        for many in range(61):
            self.well(marked(arms(plain(0)), None, [(3, 7)] * many))

    def test_every_mark_number(self):
        for g in range(128):
            self.well(marked(arms(plain(0)), None, [(g, 1)]))
        for k in range(1, 256):
            self.well(marked(arms(plain(0)), None, [(0, k)]))

    def test_quarterly_of_two_to_nine(self):
        for many in range(2, 10):
            self.well(quarterly(*[coat_of(k % 9) for k in range(many)]))

    def test_impaled_and_on_an_escutcheon(self):
        self.well(impaled(coat_of(0), coat_of(1)))
        self.well(pretence(coat_of(0), coat_of(1)))

    def test_four_deep(self):
        for cells in four_deep():
            self.well(cells)

    def test_written_out(self):
        self.assertEqual(check([0, 0, 2, 0, 0, 0]), [0])
        self.assertEqual(check([0, 1, 6, 0, 0, 2, 1, 0, 4, 1, 1, 1, 0, 3, 1, 1, 6, 3, 1, 4, 0, 0, 1, 1, 5, 9]), [0])
        self.assertEqual(check([2, 0, 0, 2, 0, 0, 0, 3, 0, 0, 3, 0, 0, 0, 0, 0, 4, 0, 0, 0]), [0])


class FirstFault(unittest.TestCase):
    def fault(self, numbers, place):
        self.assertEqual(check(numbers), [-1, place])

    def test_no_byte_at_all(self):
        self.fault([], 0)

    def test_ended_too_early_at_every_place(self):
        for cells in samples():
            numbers = bytes_of(cells)
            for end in range(len(numbers)):
                self.fault(numbers[:end], end)

    def test_a_byte_too_many(self):
        for cells in samples():
            numbers = bytes_of(cells)
            for more in (0, 1, 255):
                self.fault(numbers + [more], len(numbers))
            self.fault(numbers + numbers, len(numbers))

    def test_every_number_at_every_place(self):
        for cells in samples():
            numbers = bytes_of(cells)
            for place, cell in enumerate(cells):
                for number in range(256):
                    answer = check(numbers[:place] + [number])
                    if number not in allowed_in(cell):
                        self.assertEqual(answer, [-1, place])
                    else:
                        self.assertIn(answer, ([-1, place + 1], [0]))

    def test_the_first_of_several_faults(self):
        for cells in samples():
            numbers = bytes_of(cells)
            for place, cell in enumerate(cells):
                for number in (254, 255):
                    if number not in allowed_in(cell):
                        self.fault(numbers[:place] + [number] * (len(numbers) - place + 1), place)

    def test_the_same_tincture_twice(self):
        for tincture in range(9):
            self.fault([0, 1, 0, 0, tincture, tincture, 0, 0, 0], 5)
            self.fault([0, 2, 0, 2, 0, tincture, tincture, 0, 0, 0], 6)
            self.fault([0, 0, 0, 1, 0, 0, 0, 0, 1, 0, 0, tincture, tincture, 0, 0], 12)

    def test_murrey_is_for_marks_alone(self):
        self.fault([0, 0, 9, 0, 0, 0], 2)
        self.fault([0, 1, 0, 0, 9, 1, 0, 0, 0], 4)
        self.fault([0, 1, 0, 0, 1, 9, 0, 0, 0], 5)

    def test_chequy_and_lozengy_by_another_line(self):
        for way in (5, 6):
            for line in range(1, 6):
                self.fault([0, 2, way, 6, line, 0, 1, 0, 0, 0], 4)

    def test_pieces(self):
        for pieces in (0, 1, 25, 255):
            for way in range(7):
                self.fault([0, 2, way, pieces, 0, 0, 1, 0, 0, 0], 3)

    def test_counterchanged_over_a_plain_field(self):
        self.fault([0, 0, 2, 1, 0, 4, 0, 1, 0, 0], 7)
        self.fault([0, 0, 2, 1, 1, 0, 1, 0, 3, 1, 0, 0], 9)

    def test_counterchanged_goes_by_the_field_not_by_the_layers(self):
        over_plain = bytes_of(marked(arms(plain(0), ordinary(3, 0, parted(0, 0, 1, 2)), ordinary(4, 0, None))))
        self.fault(over_plain, 16)
        over_parted = marked(arms(parted(0, 0, 1, 2), ordinary(3, 0, plain(3)), ordinary(4, 0, None)))
        self.assertEqual(check(bytes_of(over_parted)), [0])

    def test_a_cantons_layers_have_its_own_field_below(self):
        two = arms(parted(0, 0, 1, 2))
        one = arms(plain(3))
        two_changed = arms(parted(0, 0, 1, 2), ordinary(4, 0, None))
        one_changed = arms(plain(3), ordinary(4, 0, None))
        self.assertEqual(check(bytes_of(marked(one, two_changed))), [0])
        self.assertEqual(check(bytes_of(marked(two_changed, one))), [0])
        self.fault(bytes_of(marked(two, one_changed)), 14)
        self.fault(bytes_of(marked(one_changed, two)), 7)

    def test_a_ninth_layer(self):
        self.fault([0, 0, 2, 9] + [0, 3, 0, 0, 0, 1] * 9 + [0, 0], 3)
        self.fault([0, 0, 2, 0, 1, 0, 3, 9] + [0, 3, 0, 0, 0, 1] * 9 + [0], 7)

    def test_how_many_charges_and_their_size(self):
        for many in (0, 11):
            self.fault([0, 0, 2, 1, 1, 0, many, 0, 3, 0, 0, 1, 0, 0], 6)
        for size in (0, 5):
            self.fault([0, 0, 2, 1, 1, 0, 1, 0, size, 0, 0, 1, 0, 0], 8)

    def test_sixty_one_marks(self):
        self.fault([0, 0, 2, 0, 0, 61] + [0, 1] * 61, 5)

    def test_marks_beyond_their_bounds(self):
        self.fault([0, 0, 2, 0, 0, 1, 128, 1], 6)
        self.fault([0, 0, 2, 0, 0, 1, 0, 0], 7)
        self.fault([0, 0, 2, 0, 0, 2, 0, 1, 128, 1], 8)
        self.fault([0, 0, 2, 0, 0, 2, 0, 1, 0, 0], 9)

    def test_quarterly_of_none_one_and_ten(self):
        for many in (0, 1, 10, 255):
            self.fault([1, many] + bytes_of(coat_of(0)) * many, 1)

    def test_a_fourth_kind_of_coat(self):
        self.fault([4, 0, 2, 0, 0, 0], 0)
        self.fault([2, 0, 0, 2, 0, 0, 0, 4], 7)

    def test_five_deep(self):
        one = bytes_of(coat_of(0))
        heads = ([1, 2], [2], [3])
        for outer in heads:
            for middle in heads:
                for inner in heads:
                    before = outer + middle + inner
                    for deepest in heads:
                        self.fault(before + deepest + one * 5, len(before))
                        self.fault(before + one + deepest + one * 4, len(before) + len(one))
                        self.fault(before + deepest, len(before))

    def test_depth_counts_the_coats_around_not_those_before(self):
        one = bytes_of(coat_of(0))
        wide = [2, 2, 2] + one * 3 + [3, 1, 2]
        self.assertEqual(check(wide + one * 3), [0])
        self.fault(wide + [2] + one * 4, len(wide))
        self.fault(wide + one + [1, 2] + one * 4, len(wide) + len(one))

    def test_two_thousand_bytes(self):
        full = bytes_of(marked(arms(plain(0)), None, [(1, 1)] * 60))
        last = bytes_of(marked(arms(plain(0)), None, [(1, 1)] * 49))
        numbers = [1, 2] + [1, 9] + full * 9 + [1, 7] + full * 6 + last
        self.assertEqual(len(numbers), 2000)
        self.assertEqual(check(numbers), [0])
        self.fault(numbers[:-1], 1999)
        self.fault(numbers[:-1] + [0], 1999)
        self.fault([0] * 2000, 6)
        self.fault([1] * 2000, 1)
        self.fault([2] * 2000, 3)


class HandedIn(unittest.TestCase):
    def test_the_list_is_as_it_was_and_answers_are_the_same_again(self):
        for cells in samples():
            numbers = bytes_of(cells)
            for handed in (numbers, numbers[:-1], numbers + [0], [255] + numbers):
                before = list(handed)
                answer = check(handed)
                self.assertEqual(handed, before)
                self.assertEqual(check(handed), answer)
                self.assertEqual(handed, before)

    def test_a_fault_is_not_kept(self):
        good = bytes_of(coat_of(3))
        self.assertEqual([check(good), check([9]), check(good), check([]), check(good)],
                         [[0], [-1, 0], [0], [-1, 0], [0]])

    def test_plain_whole_numbers_in_a_list(self):
        for numbers in ([], bytes_of(coat_of(3))):
            answer = check(numbers)
            self.assertIs(type(answer), list)
            for number in answer:
                self.assertIs(type(number), int)

    def test_a_given_list_may_be_changed_without_effect(self):
        answer = check([0, 0, 2, 0, 0, 0])
        answer.append(7)
        self.assertEqual(check([0, 0, 2, 0, 0, 0]), [0])
