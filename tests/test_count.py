"""Point 4: count: how many parts a coat has, and how deep it is."""

import unittest

from heraldcoats.coats import check, count, part
from tests.helper import (arms, busy, bytes_of, coat_of, group, impaled, marked, ordinary, parted, parts_of, plain,
                          pretence, quarterly, varied)

ONE = [0, 0, 2, 0, 0, 0]
# Ways to put coats into one, each with how many it takes.
KINDS = [(quarterly, 2), (quarterly, 3), (quarterly, 9), (impaled, 2), (pretence, 2)]


def rich():
    """Marked arms whose bytes have all that the bytes of coats of coats may have, but in other places."""
    own = arms(parted(1, 2, 3, 1), group(1, 2, 3, 1, None), ordinary(3, 2, varied(1, 2, 3, 1, 2)))
    return marked(own, own, [(1, 2), (2, 3), (3, 1)])


def samples():
    return [coat_of(0), rich(), quarterly(coat_of(0), coat_of(1)), impaled(rich(), coat_of(1)),
            pretence(coat_of(0), quarterly(rich(), impaled(coat_of(2), coat_of(3)), coat_of(4)))]


def told_of(cells):
    """What the cells say: marked arms are the coats' first bytes of 0, and each of these stands as deep as is noted."""
    depths = [allowed for byte, allowed in cells if isinstance(allowed, int) and byte == 0]
    return [len(depths), max(depths)]


def with_inner(build, many, place, inner):
    """A coat of so many, marked arms alone but for the one in that place."""
    coats = [coat_of(k) for k in range(many)]
    coats[place] = inner
    return build(*coats)


class MarkedAlone(unittest.TestCase):
    def test_one_part_1_deep(self):
        for tincture in range(9):
            self.assertEqual(count(bytes_of(coat_of(tincture))), [1, 1])
        for many in range(9):
            self.assertEqual(count(bytes_of(marked(arms(plain(0), *[ordinary(2, 0, plain(3))] * many)))), [1, 1])

    def test_a_canton_and_marks_are_no_parts(self):
        own, canton = arms(plain(0)), arms(parted(6, 0, 1, 2), group(11, 3, 0, 3, None))
        for many in (0, 1, 2, 60):
            self.assertEqual(count(bytes_of(marked(own, None, [(3, 7)] * many))), [1, 1])
            self.assertEqual(count(bytes_of(marked(own, canton, [(3, 7)] * many))), [1, 1])
        self.assertEqual(count(bytes_of(rich())), [1, 1])


class TwoDeep(unittest.TestCase):
    def test_quarterly_of_two_to_nine(self):
        for many in range(2, 10):
            self.assertEqual(count([1, many] + ONE * many), [many, 2])
            self.assertEqual(count(bytes_of(quarterly(*[busy(k) for k in range(many)]))), [many, 2])

    def test_impaled_and_on_an_escutcheon(self):
        self.assertEqual(count([2] + ONE + ONE), [2, 2])
        self.assertEqual(count([3] + ONE + ONE), [2, 2])
        self.assertEqual(count(bytes_of(impaled(rich(), busy(1)))), [2, 2])
        self.assertEqual(count(bytes_of(pretence(rich(), busy(1)))), [2, 2])

    def test_the_same_coat_twice_is_two_parts(self):
        self.assertEqual(count(bytes_of(quarterly(rich(), rich(), rich()))), [3, 2])


class Nested(unittest.TestCase):
    def test_written_out(self):
        self.assertEqual(count([2] + [1, 3] + ONE * 3 + [3] + ONE * 2), [5, 3])
        self.assertEqual(count([2] + ONE + [3] + ONE + [1, 4] + ONE * 4), [6, 4])
        self.assertEqual(count([3] + [2] + [1, 2] + ONE * 2 + ONE + ONE), [4, 4])
        self.assertEqual(count([1, 2] + [1, 2] + [1, 2] + ONE * 3 + [1, 2] + ONE * 2), [5, 4])

    def test_the_deepest_first_in_the_middle_and_last(self):
        for outer, many in KINDS:
            for place in range(many):
                inner = impaled(coat_of(0), coat_of(1))
                self.assertEqual(count(bytes_of(with_inner(outer, many, place, inner))), [many + 1, 3])
                inner = pretence(coat_of(0), quarterly(coat_of(1), coat_of(2), coat_of(3)))
                self.assertEqual(count(bytes_of(with_inner(outer, many, place, inner))), [many + 3, 4])

    def test_each_kind_in_each_at_each_place(self):
        for outer, outer_many in KINDS:
            for middle, middle_many in KINDS:
                for inner, inner_many in KINDS:
                    deep = inner(*[coat_of(k) for k in range(inner_many)])
                    for place in range(middle_many):
                        within = with_inner(middle, middle_many, place, deep)
                        for cells in (with_inner(outer, outer_many, 0, within),
                                      with_inner(outer, outer_many, outer_many // 2, within),
                                      with_inner(outer, outer_many, outer_many - 1, within)):
                            self.assertEqual(count(bytes_of(cells)), [inner_many + middle_many + outer_many - 2, 4])

    def test_depth_is_the_deepests_alone(self):
        three = impaled(coat_of(0), pretence(coat_of(1), coat_of(2)))
        two = quarterly(*[coat_of(k) for k in range(9)])
        self.assertEqual(count(bytes_of(quarterly(two, three, two))), [21, 4])
        self.assertEqual(count(bytes_of(quarterly(two, coat_of(0), two))), [19, 3])
        self.assertEqual(count(bytes_of(impaled(three, three))), [6, 4])
        self.assertEqual(count(bytes_of(pretence(two, two))), [18, 3])

    def test_as_the_cells_say(self):
        for cells in samples():
            self.assertEqual(count(bytes_of(cells)), told_of(cells))
            self.assertEqual(count(bytes_of(cells))[0], len(parts_of(cells)))

    def test_no_part_is_numbered_beyond_the_count(self):
        for cells in samples():
            numbers = bytes_of(cells)
            met = [part(p, r, numbers)[0] for p in range(0, 480, 16) for r in range(0, 576, 16)]
            self.assertEqual(sorted(set(met)), list(range(count(numbers)[0])))


class TwoThousandBytes(unittest.TestCase):
    def test_as_many_parts_as_can_be_told(self):
        # 1 + 9 + 30 coats quarterly, each of 9 but one of 8: more parts would need more bytes.
        nine, eight = [1, 9] + ONE * 9, [1, 8] + ONE * 8
        wide = [1, 9] + nine * 4 + ONE * 5
        narrow = [1, 9] + nine * 3 + ONE * 6
        last = [1, 9] + nine * 2 + eight + ONE * 6
        numbers = [1, 9] + wide * 3 + narrow * 5 + last
        self.assertEqual(len(numbers), 2000)
        self.assertEqual(count(numbers), [320, 4])
        self.assertEqual(count(numbers[:-1]), [-1, 1999])
        self.assertEqual(count(numbers[:-1] + [61]), [-1, 1999])

    def test_few_parts_in_many_bytes(self):
        full = bytes_of(marked(arms(plain(0)), None, [(1, 1)] * 60))
        last = bytes_of(marked(arms(plain(0)), None, [(1, 1)] * 49))
        numbers = [1, 2] + [1, 9] + full * 9 + [1, 7] + full * 6 + last
        self.assertEqual(len(numbers), 2000)
        self.assertEqual(count(numbers), [16, 3])


class NoCoat(unittest.TestCase):
    def test_written_out(self):
        for numbers, place in (([], 0), ([4], 0), ([255] * 2000, 0), ([1, 1] + ONE, 1), ([1, 10] + ONE * 10, 1),
                               ([0, 0, 9, 0, 0, 0], 2), ([0, 1, 0, 0, 3, 3, 0, 0, 0], 5), (ONE[:5], 5),
                               (ONE + [0], 6), ([2] + ONE, 7), ([3] + ONE * 3, 13), ([2, 2, 2, 2] + ONE * 5, 3),
                               ([1, 3] + ONE * 2, 14), ([0, 0, 2, 0, 0, 1, 0, 0], 7), ([0] * 2000, 6)):
            self.assertEqual(count(numbers), [-1, place])

    def test_ended_too_early_and_a_byte_too_many(self):
        for cells in samples():
            numbers = bytes_of(cells)
            for end in range(len(numbers)):
                self.assertEqual(count(numbers[:end]), [-1, end])
            self.assertEqual(count(numbers + [0]), [-1, len(numbers)])

    def test_the_place_that_check_tells(self):
        for cells in samples():
            numbers = bytes_of(cells)
            for place in range(len(numbers)):
                changed = numbers[:place] + [255] + numbers[place + 1:]
                if check(changed) != [0]:
                    self.assertEqual(count(changed), check(changed))


class Called(unittest.TestCase):
    def test_handed_in_as_it_was_and_the_same_again(self):
        for cells in samples():
            numbers = bytes_of(cells)
            for handed in (numbers, numbers[:-1], numbers + [0], [255] + numbers):
                before = list(handed)
                answer = count(handed)
                self.assertEqual(handed, before)
                self.assertEqual(count(handed), answer)
                self.assertEqual(handed, before)

    def test_plain_whole_numbers_in_a_list(self):
        for numbers in [bytes_of(cells) for cells in samples()] + [[]]:
            answer = count(numbers)
            self.assertIs(type(answer), list)
            self.assertEqual([type(number) for number in answer], [int, int])

    def test_nothing_is_kept(self):
        both = [2] + ONE + ONE
        self.assertEqual([count(both), count(ONE), count([]), count(both)], [[2, 2], [1, 1], [-1, 0], [2, 2]])
        answer = count(both)
        answer.append(7)
        self.assertEqual(count(both), [2, 2])
        changed = [1, 2] + ONE * 2
        self.assertEqual(count(changed), [2, 2])
        changed[1] = 3
        self.assertEqual(count(changed), [-1, 14])
        changed.extend(ONE)
        self.assertEqual(count(changed), [3, 2])
