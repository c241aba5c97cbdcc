"""Point 5: words: a coat's words in their one form."""

import unittest

from heraldcoats.coats import check, words
from tests.helper import (arms, busy, bytes_of, coat_of, counted, group, impaled, marked, ordinary, parted, plain,
                          pretence, quarterly, said_coats, said_nested, signs, varied)

ONE = [0, 0, 2, 0, 0, 0]


def text_of(cells):
    answer = words(bytes_of(cells))
    if answer[0] != len(answer) - 1:
        return answer
    return "".join([chr(byte) for byte in answer[1:]])


def blazon_of(own):
    return text_of(marked(own))


class Blazons(unittest.TestCase):
    def test_tinctures(self):
        self.assertEqual([text_of(coat_of(tincture)) for tincture in range(9)],
                         ["(or)", "(argent)", "(gules)", "(azure)", "(sable)", "(vert)", "(purpure)", "(ermine)",
                          "(vair)"])

    def test_parted_fields(self):
        for field, text in ((parted(0, 0, 0, 1), "(per pale or and argent)"),
                            (parted(1, 1, 2, 3), "(per fess wavy gules and azure)"),
                            (parted(2, 2, 4, 5), "(per bend embattled sable and vert)"),
                            (parted(3, 0, 6, 7), "(per bend sinister purpure and ermine)"),
                            (parted(3, 3, 6, 7), "(per bend sinister indented purpure and ermine)"),
                            (parted(4, 4, 8, 0), "(per chevron engrailed vair and or)"),
                            (parted(5, 5, 1, 2), "(per saltire invected argent and gules)"),
                            (parted(6, 0, 3, 4), "(quarterly azure and sable)"),
                            (parted(6, 1, 3, 4), "(quarterly wavy azure and sable)"),
                            (parted(7, 0, 5, 6), "(gyronny vert and purpure)"),
                            (parted(7, 2, 5, 6), "(gyronny embattled vert and purpure)")):
            self.assertEqual(blazon_of(arms(field)), text)

    def test_varied_fields(self):
        for field, text in ((varied(0, 2, 0, 0, 1), "(barry of 2 or and argent)"),
                            (varied(0, 24, 1, 0, 1), "(barry of 24 wavy or and argent)"),
                            (varied(1, 6, 5, 2, 3), "(paly of 6 invected gules and azure)"),
                            (varied(2, 10, 0, 4, 5), "(bendy of 10 sable and vert)"),
                            (varied(3, 9, 4, 6, 7), "(bendy sinister of 9 engrailed purpure and ermine)"),
                            (varied(4, 20, 3, 8, 0), "(chevronny of 20 indented vair and or)"),
                            (varied(5, 2, 0, 1, 2), "(chequy of 2 argent and gules)"),
                            (varied(6, 24, 0, 3, 4), "(lozengy of 24 azure and sable)")):
            self.assertEqual(blazon_of(arms(field)), text)

    def test_layers(self):
        field = parted(0, 0, 0, 2)
        for layer, text in ((ordinary(0, 0, plain(3)), "a chief azure"),
                            (ordinary(3, 1, None), "a fess wavy counterchanged"),
                            (ordinary(4, 0, parted(3, 0, 1, 4)), "a bend per bend sinister argent and sable"),
                            (ordinary(5, 2, plain(5)), "a bend sinister embattled vert"),
                            (ordinary(7, 0, varied(5, 6, 0, 0, 1)), "a cross chequy of 6 or and argent"),
                            (ordinary(8, 3, parted(6, 4, 0, 1)),
                             "a saltire indented quarterly engrailed or and argent"),
                            (group(0, 1, 0, 3, plain(3)), "a roundel azure"),
                            (group(1, 1, 0, 3, plain(3)), "an annulet azure"),
                            (group(1, 1, 0, 1, plain(3)), "a small annulet azure"),
                            (group(15, 1, 3, 4, None), "a great arrow in bend counterchanged"),
                            (group(11, 1, 4, 3, None), "an escutcheon in bend sinister counterchanged"),
                            (group(8, 1, 2, 2, plain(8)), "a lesser increscent in pale vair"),
                            (group(8, 1, 5, 3, plain(8)), "an increscent in chief vair"),
                            (group(9, 2, 0, 3, plain(1)), "two crosslets argent"),
                            (group(10, 10, 6, 1, plain(1)), "ten small saltorels in base argent"),
                            (group(13, 3, 1, 2, None), "three lesser swords in fess counterchanged")):
            self.assertEqual(blazon_of(arms(field, layer)), f"(per pale or and gules, {text})")

    def test_several_layers(self):
        self.assertEqual(blazon_of(arms(plain(0), ordinary(2, 0, plain(2)), group(6, 3, 0, 3, plain(1)),
                                        ordinary(10, 4, plain(3)))),
                         "(or, a pale gules, three mullets argent, a bordure engrailed azure)")
        self.assertEqual(blazon_of(arms(plain(0), *[ordinary(12, 0, plain(7))] * 8)),
                         "(or" + ", a quarter ermine" * 8 + ")")


class Coats(unittest.TestCase):
    def test_marks(self):
        own = arms(plain(3))
        self.assertEqual(text_of(marked(own, None, [(0, 1)])), "(azure) marked 0.1")
        self.assertEqual(text_of(marked(own, None, [(127, 255), (0, 1), (10, 100)])),
                         "(azure) marked 127.255 0.1 10.100")
        self.assertEqual(text_of(marked(own, None, [(0, 255)] * 60)), "(azure) marked" + " 0.255" * 60)

    def test_every_number_of_a_mark(self):
        for number in range(1, 256):
            g = number % 128
            self.assertEqual(text_of(marked(arms(plain(3)), None, [(g, number)])), f"(azure) marked {g}.{number}")

    def test_cantons(self):
        own, canton = arms(plain(3)), arms(plain(0), ordinary(3, 0, plain(2)))
        self.assertEqual(text_of(marked(own, canton)), "(azure) augmented (or, a fess gules)")
        self.assertEqual(text_of(marked(own, canton, [(1, 2), (3, 4)])),
                         "(azure) augmented (or, a fess gules) marked 1.2 3.4")

    def test_coats_of_coats(self):
        red, blue = coat_of(2), coat_of(3)
        self.assertEqual(text_of(quarterly(red, blue)), "quarterly [(gules); (azure)]")
        self.assertEqual(text_of(impaled(red, blue)), "impaled [(gules); (azure)]")
        self.assertEqual(text_of(pretence(red, blue)), "pretence [(gules); (azure)]")
        self.assertEqual(text_of(quarterly(*[coat_of(k) for k in range(9)])),
                         "quarterly [(or); (argent); (gules); (azure); (sable); (vert); (purpure); (ermine); (vair)]")

    def test_nested(self):
        stained = marked(arms(plain(2)), arms(plain(3)), [(5, 6)])
        cells = quarterly(stained, impaled(coat_of(0), pretence(stained, coat_of(1))), coat_of(4))
        self.assertEqual(text_of(cells),
                         "quarterly [(gules) augmented (azure) marked 5.6; impaled [(or); pretence [(gules) augmented "
                         "(azure) marked 5.6; (argent)]]; (sable)]")

    def test_all_that_can_be_said(self):
        for cells, text in said_coats():
            self.assertEqual(words(bytes_of(cells)), counted(signs(text)), text)

    def test_more_than_read_may_be_handed(self):
        full = arms(parted(3, 4, 7, 6), *[group(11, 10, 4, 2, None)] * 8)
        text = "(per bend sinister engrailed ermine and purpure"
        text = text + ", ten lesser escutcheons in bend sinister counterchanged" * 8 + ")"
        one = (marked(full, full), f"{text} augmented {text}")
        for cells, whole in said_nested([one] * 11):
            self.assertEqual(words(bytes_of(cells)), counted(signs(whole)))
        ninefold = quarterly(*[one[0]] * 9)
        self.assertEqual(words(bytes_of(ninefold))[0], 9 * len(one[1]) + len("quarterly [") + 8 * len("; ") + 1)
        self.assertGreater(words(bytes_of(ninefold))[0], 4096)

    def test_two_thousand_bytes(self):
        nine, eight = [1, 9] + ONE * 9, [1, 8] + ONE * 8
        wide = [1, 9] + nine * 4 + ONE * 5
        narrow = [1, 9] + nine * 3 + ONE * 6
        last = [1, 9] + nine * 2 + eight + ONE * 6
        numbers = [1, 9] + wide * 3 + narrow * 5 + last
        self.assertEqual(len(numbers), 2000)
        # 320 times (gules), 40 times quarterly [], and a ; with a blank behind each coat but the last of its bracket.
        self.assertEqual(words(numbers)[0], 320 * 7 + 40 * 12 + 2 * (320 + 39 - 40))
        self.assertEqual(words(numbers[:-1]), [-1, 1999])
        self.assertEqual(words(numbers[:-1] + [61]), [-1, 1999])


class NoCoat(unittest.TestCase):
    def test_written_out(self):
        for numbers, place in (([], 0), ([4], 0), ([255] * 2000, 0), ([1, 1] + ONE, 1), ([1, 10] + ONE * 10, 1),
                               ([0, 0, 9, 0, 0, 0], 2), ([0, 1, 0, 0, 3, 3, 0, 0, 0], 5), (ONE[:5], 5),
                               (ONE + [0], 6), ([2] + ONE, 7), ([3] + ONE * 3, 13), ([2, 2, 2, 2] + ONE * 5, 3),
                               ([0, 0, 2, 0, 0, 1, 0, 0], 7), ([0, 0, 2, 0, 0, 61] + [0, 1] * 61, 5),
                               ([0, 0, 2, 1, 0, 4, 0, 1, 0, 0], 7), ([0, 2, 5, 6, 1, 0, 1, 0, 0, 0], 4)):
            self.assertEqual(words(numbers), [-1, place])

    def test_as_check_tells(self):
        for cells in (coat_of(0), busy(3), impaled(busy(1), quarterly(busy(2), coat_of(4))),
                      pretence(busy(4), busy(5))):
            numbers = bytes_of(cells)
            for place in range(len(numbers)):
                self.assertEqual(words(numbers[:place]), [-1, place])
                for number in (0, 1, 8, 9, 255):
                    changed = numbers[:place] + [number] + numbers[place + 1:]
                    if check(changed) != [0]:
                        self.assertEqual(words(changed), check(changed))
            self.assertEqual(words(numbers + [0]), [-1, len(numbers)])


class Called(unittest.TestCase):
    def samples(self):
        return [bytes_of(cells) for cells in (coat_of(0), busy(3), quarterly(busy(1), coat_of(2), busy(2)),
                                              impaled(coat_of(1), pretence(busy(5), coat_of(3))))]

    def test_handed_in_as_it_was_and_the_same_again(self):
        for numbers in self.samples():
            for handed in (numbers, numbers[:-1], numbers + [0], [255] + numbers):
                before = list(handed)
                answer = words(handed)
                self.assertEqual(handed, before)
                self.assertEqual(words(handed), answer)
                self.assertEqual(handed, before)

    def test_plain_whole_numbers_in_a_list(self):
        for numbers in self.samples() + [[]]:
            answer = words(numbers)
            self.assertIs(type(answer), list)
            for number in answer:
                self.assertIs(type(number), int)

    def test_nothing_is_kept(self):
        red = signs("(gules)")
        self.assertEqual([words(ONE), words([]), words([2] + ONE + ONE), words(ONE)],
                         [counted(red), [-1, 0], counted(signs("impaled [(gules); (gules)]")), counted(red)])
        answer = words(ONE)
        answer.append(7)
        self.assertEqual(words(ONE), counted(red))
        changed = list(ONE)
        changed[2] = 0
        self.assertEqual(words(changed), counted(signs("(or)")))
