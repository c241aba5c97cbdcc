"""Point 6: read: from words to a coat's bytes; the faults stand in files of their own."""

import re
import unittest

from heraldcoats.coats import check, read, words
from tests.helper import (arms, busy, bytes_of, coat_of, counted, group, impaled, marked, ordinary, parted, plain,
                          pretence, quarterly, said_coats, signs, varied)


class ReadBack(unittest.TestCase):
    def test_written_out(self):
        for text, numbers in (
                ("(or)", [0, 0, 0, 0, 0, 0]),
                ("(vair) marked 0.1 127.255", [0, 0, 8, 0, 0, 2, 0, 1, 127, 255]),
                ("(per bend sinister wavy gules and azure)", [0, 1, 3, 1, 2, 3, 0, 0, 0]),
                ("(bendy sinister of 24 invected gules and azure)", [0, 2, 3, 24, 5, 2, 3, 0, 0, 0]),
                ("(chequy of 2 or and vert)", [0, 2, 5, 2, 0, 0, 5, 0, 0, 0]),
                ("(or, a bend sinister gules, an arrow in bend sinister azure)",
                 [0, 0, 0, 2, 0, 5, 0, 0, 0, 2, 1, 15, 1, 4, 3, 0, 0, 3, 0, 0]),
                ("(gyronny or and gules, a cross counterchanged, ten great crosslets quarterly or and argent)",
                 [0, 1, 7, 0, 0, 2, 2, 0, 7, 0, 1, 1, 9, 10, 0, 4, 0, 1, 6, 0, 0, 1, 0, 0]),
                ("(or) augmented (gules, a small annulet argent)",
                 [0, 0, 0, 0, 1, 0, 2, 1, 1, 1, 1, 0, 1, 0, 0, 1, 0]),
                ("impaled [(or); pretence [(gules); (azure)]]",
                 [2, 0, 0, 0, 0, 0, 0, 3, 0, 0, 2, 0, 0, 0, 0, 0, 3, 0, 0, 0]),
                ("quarterly [(or); (gules)]", [1, 2, 0, 0, 0, 0, 0, 0, 0, 0, 2, 0, 0, 0])):
            self.assertEqual(read(signs(text)), counted(numbers), text)

    def test_all_that_words_print(self):
        for cells, text in said_coats():
            numbers = bytes_of(cells)
            printed = words(numbers)[1:]
            self.assertLessEqual(len(printed), 4096)
            self.assertEqual(printed, signs(text))
            self.assertEqual(read(printed), counted(numbers), text)

    def test_every_number_of_a_mark(self):
        for g in range(128):
            self.assertEqual(read(signs(f"(or) marked {g}.{g + 1}")), counted([0, 0, 0, 0, 0, 1, g, g + 1]))
        for k in range(1, 256):
            self.assertEqual(read(signs(f"(or) marked 0.{k}")), counted([0, 0, 0, 0, 0, 1, 0, k]))

    def test_more_bytes_than_a_coat_handed_over_may_have(self):
        ninefold = "quarterly[" + ";".join(["(or)"] * 9) + "]"
        sevenfold = "quarterly[" + ";".join([ninefold] * 7) + "]"
        text = "quarterly[" + ";".join([sevenfold] * 9) + "]"
        numbers = [1, 9] + ([1, 7] + ([1, 9] + [0] * 54) * 7) * 9
        self.assertEqual((len(text), len(numbers)), (3637, 3548))
        self.assertEqual(read(signs(text)), counted(numbers))


def tokens_of(text):
    return re.findall(r"[a-z]+|[0-9]+\.[0-9]+|[0-9]+|[^ ]", text)


def squeezed(text):
    """With a blank only where two words, or two marks, would be one without it."""
    tokens = tokens_of(text)
    close = "".join(tokens[:1])
    for before, token in zip(tokens, tokens[1:]):
        apart = (before.isalpha() and token.isalpha()) or (before[-1].isdigit() and token[0].isdigit())
        close += " " * apart + token
    return close


class Blanks(unittest.TestCase):
    def coats(self):
        rich = arms(varied(3, 24, 4, 0, 2), ordinary(5, 1, None), group(1, 1, 4, 3, parted(3, 2, 1, 3)),
                    group(11, 10, 1, 2, varied(6, 2, 0, 7, 8)))
        some = [coat_of(0), marked(rich), marked(rich, rich), marked(rich, None, [(0, 1), (127, 255), (9, 10)]),
                marked(rich, arms(plain(5)), [(0, 1)])]
        nested = quarterly(some[0], impaled(some[1], pretence(some[3], some[4])), some[2])
        return [bytes_of(cells) for cells in some + [impaled(*some[2:4]), pretence(*some[3:5]), nested]]

    def same(self, text, numbers):
        self.assertEqual(read(signs(text)), counted(numbers), text)

    def printed(self, numbers):
        return "".join([chr(byte) for byte in words(numbers)[1:]])

    def test_none_but_where_words_would_run_together(self):
        for numbers in self.coats():
            self.same(squeezed(self.printed(numbers)), numbers)

    def test_written_out_without(self):
        self.same("(barry of6or and gules,a fess or)augmented(or)marked1.2 3.4",
                  bytes_of(marked(arms(varied(0, 6, 0, 0, 2), ordinary(3, 0, plain(0))), arms(plain(0)),
                                  [(1, 2), (3, 4)])))
        self.same("impaled[(or);(gules)]", bytes_of(impaled(coat_of(0), coat_of(2))))
        self.same("(barry of24wavy or and gules)", bytes_of(marked(arms(varied(0, 24, 1, 0, 2)))))

    def test_many_wherever_they_may_stand(self):
        for numbers in self.coats():
            for blanks in (" ", "\n", "  ", "\n\n", " \n ", "\n  \n\n "):
                self.same(blanks + blanks.join(tokens_of(self.printed(numbers))) + blanks, numbers)

    def test_many_at_each_place_by_itself(self):
        for numbers in self.coats():
            tokens = tokens_of(self.printed(numbers))
            for place in range(len(tokens) + 1):
                halves = [squeezed(" ".join(half)) for half in (tokens[:place], tokens[place:])]
                self.same(" \n\n ".join(halves), numbers)

    def test_blanks_are_no_others(self):
        for byte in (0, 9, 11, 12, 13, 28, 31, 133, 160):
            self.assertEqual(read([byte] + signs("(or)")), [-10, 0])
            self.assertEqual(read(signs("(or)") + [byte]), [-10, 4])
            self.assertEqual(read(signs("(") + [byte] + signs("or)")), [-1, 1])
            self.assertEqual(read(signs("(or") + [byte] + signs(")")), [-1, 3])


class Long(unittest.TestCase):
    def test_blanks(self):
        self.assertEqual(read([32] * 4096), [-10, 4096])
        self.assertEqual(read([10, 32] * 2048), [-10, 4096])
        self.assertEqual(read([32] * 4092 + signs("(or)")), counted([0] * 6))
        self.assertEqual(read(signs("(or)") + [10] * 4092), counted([0] * 6))
        self.assertEqual(read(signs("(") + [32] * 4092 + signs("or)")), counted([0] * 6))
        self.assertEqual(read(signs("(or") + [32] * 4092 + signs(")")), counted([0] * 6))
        self.assertEqual(read(signs("(") + [32] * 4094 + signs(")")), [-3, 4095])

    def test_one_word(self):
        self.assertEqual(read(signs("a" * 4096)), [-10, 0])
        self.assertEqual(read(signs("(" + "o" * 4094 + ")")), [-3, 1])
        self.assertEqual(read(signs("(or)" + "m" * 4092)), [-10, 4])
        self.assertEqual(read(signs("(or, " + "a" * 4090 + ")")), [-3, 5])

    def test_one_number(self):
        self.assertEqual(read(signs("1" * 4096)), [-10, 0])
        self.assertEqual(read(signs("(" + "1" * 4094 + ")")), [-2, 1])
        self.assertEqual(read(signs("(barry of " + "2" * 4085 + ")")), [-2, 10])
        self.assertEqual(read(signs("(or) marked " + "7" * 4084)), [-2, 12])
        self.assertEqual(read(signs("(or) marked 0." + "7" * 4082)), [-2, 14])
        self.assertEqual(read(signs("(or) marked " + "0" * 4084)), [-2, 12])

    def test_brackets(self):
        for sign in "[];)":
            self.assertEqual(read(signs(sign * 4096)), [-10, 0])
        self.assertEqual(read(signs("(" * 4096)), [-10, 4096])
        self.assertEqual(read(signs("(" * 4095 + ")")), [-1, 1])
        self.assertEqual(read(signs("()" * 2048)), [-3, 1])
        self.assertEqual(read(signs(("impaled[" * 512)[:4096])), [-13, 32])
        self.assertEqual(read(signs("quarterly[" * 409)), [-13, 40])

    def test_layers(self):
        layers = (", a fess gules" * 300)[:4090]
        self.assertEqual(read(signs("(or" + layers + ")")), [-8, 3 + 8 * len(", a fess gules")])
        self.assertEqual(read(signs("(or" + "," * 4092 + ")")), [-3, 4])
        eight = "(or" + ", a fess gules" * 8 + ")"
        self.assertEqual(read(signs(eight + " augmented " + eight))[0], 2 * (2 + 1 + 8 * 6) + 3)

    def test_marks(self):
        self.assertEqual(read(signs(("(or) marked" + " 0.1" * 1100)[:4096])), [-12, 12 + 60 * 4])
        self.assertEqual(read(signs("(or) marked" + " 0.1" * 60)), counted([0, 0, 0, 0, 0, 60] + [0, 1] * 60))
        # In brackets each coat has its own sixty.
        text = "quarterly[" + ";".join(["(or)marked" + " 1.1" * 60] * 9) + "]"
        self.assertEqual(read(signs(text)), counted([1, 9] + ([0, 0, 0, 0, 0, 60] + [1, 1] * 60) * 9))

    def test_coats(self):
        text = "quarterly[" + ";".join(["(or)"] * 817)
        self.assertEqual(len(text), 4094)
        self.assertEqual(read(signs(text + "]")), [-14, 0])
        self.assertEqual(read(signs(text)), [-10, 4094])


class Called(unittest.TestCase):
    def samples(self):
        rich = words(bytes_of(quarterly(busy(1), impaled(busy(2), coat_of(3)), busy(4))))[1:]
        return [signs(text) for text in ("", "(or)", "(or, a fess or)marked 1.2", "(or", "(or, an fess or)", "marked",
                                         "quarterly [(or)]", "(or) marked 200.1")] + [rich, rich[:-1], rich + [0]]

    def test_handed_in_as_it_was_and_the_same_again(self):
        for handed in self.samples():
            before = list(handed)
            answer = read(handed)
            self.assertEqual(handed, before)
            self.assertEqual(read(handed), answer)
            self.assertEqual(handed, before)

    def test_plain_whole_numbers_in_a_list(self):
        for handed in self.samples():
            answer = read(handed)
            self.assertIs(type(answer), list)
            for number in answer:
                self.assertIs(type(number), int)

    def test_how_many_or_the_place_alone_stand_behind(self):
        for handed in self.samples():
            answer = read(handed)
            self.assertEqual(len(answer), answer[0] + 1 if answer[0] > 0 else 2)
            if answer[0] > 0:
                self.assertEqual(check(answer[1:]), [0])

    def test_nothing_is_kept(self):
        gold, none = signs("(or)"), signs("(or")
        self.assertEqual([read(gold), read(none), read(gold), read([]), read(gold)],
                         [counted([0] * 6), [-10, 3], counted([0] * 6), [-10, 0], counted([0] * 6)])
        answer = read(gold)
        answer.append(7)
        self.assertEqual(read(gold), counted([0] * 6))
        changed = list(gold)
        changed.append(120)
        self.assertEqual(read(changed), [-10, 4])
