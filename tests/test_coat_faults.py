"""Point 6: the faults of coats' words outside of blazons: 2 of a mark, 10 to 14."""

import unittest

from heraldcoats.coats import read
from tests.helper import Faults, signs

KINDS = ("quarterly", "impaled", "pretence")


def fine(text):
    return read(signs(text))[0] > 0


class SomethingElse(Faults, unittest.TestCase):
    def test_nothing_at_all(self):
        for text in ("^", " ^", "\n \n^"):
            self.tells(10, text)

    def test_where_a_coat_is_wanted(self):
        for before in ("", "  ", "impaled [", "impaled[ \n", "impaled [(or); ", "quarterly [(or);", "quarterly [",
                       "quarterly [(or); (or); ", "pretence [(or); impaled [(or) marked 1.2;\n"):
            for there in ("", "or", "x", "augmented (or)", "marked 1.2", "quarter [(or); (or)]",
                          "quarterlyy [(or); (or)]", "Quarterly", "impale", "pretense", ")", "[", "]", ";", ",", ".",
                          "1.2", "0", "#", "\t", "\x00", "\x80", "\xff"):
                self.tells(10, f"{before}^{there}")

    def test_where_a_bracket_is_wanted(self):
        for word in KINDS:
            for there in ("", "(or)", "]", "(", "impaled [", "{", "5", "x"):
                self.tells(10, f"{word} ^{there}")
                self.tells(10, f"impaled [(or); {word}\n\n^{there}")

    def test_between_coats(self):
        for there in ("", "]", ",", ":", "(or)", "impaled [(or); (or)]", "x", "1.2", ")", "."):
            self.tells(10, f"impaled [(or) ^{there}")
            self.tells(10, f"pretence [(or) ^{there}")
            if there != "]":
                self.tells(10, f"quarterly [(or) ^{there}")
                self.tells(10, f"quarterly [(or); (or) ^{there}")
                self.tells(10, f"quarterly [(or); (or); (or)\n^{there}")

    def test_two_are_two(self):
        for word in ("impaled", "pretence"):
            for there in ("", ";", "; (or)]", "(or)]", "x]", ","):
                self.tells(10, f"{word} [(or); (or)^{there}")
                self.tells(10, f"{word} [(or); (or) ^{there}")
            self.tells(10, f"{word} [(or)^]")
            self.tells(10, f"{word} [^]")
            self.tells(10, f"{word} [(or); ^]")
        self.tells(10, "quarterly [^]")
        self.tells(10, "quarterly [(or);^]")
        self.tells(10, "quarterly [(or); (or); ^]")

    def test_something_behind_the_coat(self):
        for coat in ("(or)", "(or) augmented (or)", "(or) marked 1.2", "impaled [(or); (or)]",
                     "quarterly [(or); pretence [(or); (or)]]"):
            for there in ("(or)", "]", ";", "; (or)", ")", ",", ".", "x", "impaled [(or); (or)]", "#", "\t"):
                self.tells(10, f"{coat}^{there}")
                self.tells(10, f"{coat} \n ^{there}")

    def test_words_behind_a_blazon_stand_in_order_and_once(self):
        self.tells(10, "(or) augmented (or) ^augmented (or)")
        self.tells(10, "(or) marked 1.2 ^augmented (or)")
        self.tells(10, "(or) marked 1.2 ^marked 1.2")
        self.tells(10, "(or) ^augment (or)")
        self.tells(10, "(or) ^augmentedd (or)")
        self.tells(10, "(or) ^mark 1.2")
        self.tells(10, "(or) ^markedd 1.2")
        self.tells(10, "(or) ^1.2")
        self.tells(10, "impaled [(or); (or)] ^marked 1.2")
        self.tells(10, "impaled [(or); (or)] ^augmented (or)")

    def test_behind_augmented(self):
        for there in ("", "or", "marked 1.2", "[", ")", "1.2", "impaled [(or); (or)]", ";"):
            self.tells(10, f"(or) augmented ^{there}")
            self.tells(10, f"(or)augmented\n^{there}")

    def test_behind_marked(self):
        for there in ("", "(or)", ".1", "x", ";", "-1.2", "marked 1.2", ",", "]"):
            self.tells(10, f"(or) marked ^{there}")
            self.tells(10, f"(or)marked\n\n^{there}")

    def test_a_blazon_without_its_end(self):
        for there in ("", "or", "#", "per pale or and or", "barry of 1", "0", "or" + ", a fess or" * 9, "or, an fess",
                      "(((", "or] marked 1.2 "):
            self.tells(10, f"({there}^")
            self.tells(10, f"(or) augmented ({there}^")
            self.tells(10, f"impaled [(or); ({there}^")
        self.tells(3, "(^) augmented (or")
        self.tells(5, "impaled [(per pale or and ^or); (or")

    def test_every_byte_outside_of_blazons(self):
        for byte in range(256):
            for before, fits, behind in (("", " \n(", "(or)"), ("(or)", " \n", ""), ("impaled", " \n[", "[(or); (or)]"),
                                         ("impaled [(or)", " \n;", ";(or)]"), ("impaled [(or); (or)", " \n]", "]")):
                # A letter that goes on with a word is told where the word begins.
                place = 0 if before == "impaled" and 97 <= byte <= 122 else len(before)
                if byte not in signs(fits):
                    answer = read(signs(before) + [byte] + signs(" " + behind))
                    self.assertEqual(answer, [-10, place], (before, byte))

    def test_every_byte_within_and_behind_a_mark(self):
        for byte in range(256):
            digit = 48 <= byte <= 57
            if not digit and byte != 46:
                self.assertEqual(read(signs("(or) marked 1") + [byte] + signs("2")), [-10, 13], byte)
            if not digit:
                self.assertEqual(read(signs("(or) marked 1.") + [byte] + signs("2")), [-10, 14], byte)
                if byte not in (10, 32):
                    self.assertEqual(read(signs("(or) marked 1.2") + [byte] + signs(" 3.4")), [-10, 15], byte)
                    self.assertEqual(read(signs("(or) marked ") + [byte] + signs("1.2")), [-10, 12], byte)


class TextsEnd(unittest.TestCase):
    # All in brackets, so that no part of it is a coat by itself.
    TEXT = ("quarterly [(or, a fess gules) augmented (per pale or and gules) marked 1.2 127.255; impaled [ (or); "
            "pretence [(gules) ; (azure)]\n] ; (vert)marked 3.4 ]")

    def place_of_end(self, end):
        """What's there at the end: nothing, or a word that is none yet."""
        before = self.TEXT[:end]
        if before.rfind("(") > before.rfind(")"):
            return end
        start = end
        while start > 0 and before[start - 1].isalpha():
            start -= 1
        return end if before[start:] in ("", "quarterly", "impaled", "pretence", "augmented", "marked") else start

    def test_at_each_place(self):
        self.assertTrue(fine(self.TEXT))
        for end in range(len(self.TEXT)):
            text, place = self.TEXT[:end], self.place_of_end(end)
            self.assertEqual(read(signs(text)), [-10, place], text)
            if not self.within_a_mark(end):
                self.assertEqual(read(signs(text + " \n")), [-10, end + 2 if place == end else place], text)

    def within_a_mark(self, end):
        """Whether the end stands where a blank behind it would be told itself."""
        before = self.TEXT[:end]
        return before.endswith(".") or (before[-1:].isdigit() and "." not in before.split()[-1])

    def test_written_out(self):
        for text, place in (("quarter", 0), ("quarterly", 9), ("quarterly ", 10), ("quarterly [", 11),
                            ("impaled [(or", 12), ("impaled [(or)", 13), ("impaled [(or);", 14),
                            ("impaled [(or); (or)", 19), ("(or) a", 5), ("(or) augmented", 14),
                            ("(or) augmented (", 16), ("(or) mark", 5), ("(or) marked", 11), ("(or) marked 1", 13),
                            ("(or) marked 1.", 14)):
            self.assertEqual(read(signs(text)), [-10, place], text)


class Marks(Faults, unittest.TestCase):
    def test_blanks_within(self):
        for blank in (" ", "\n"):
            self.tells(10, f"(or) marked 1^{blank}.2")
            self.tells(10, f"(or) marked 1.^{blank}2")
            self.tells(10, f"(or) marked 1^{blank}")
            self.tells(10, f"(or) marked 1.^{blank}")
            self.tells(10, f"(or) marked 1.2 {blank}^.3")
            self.tells(10, f"(or) marked 1.2 3^{blank}4.5")

    def test_other_signs_within(self):
        for text in ("1^,2", "1^", "1.^", "1.^x", "1^x.2", "1^x", "1.^.2", "1.2^.3", "1.2 3^", "1.2 3.^", "1^;", "1^)",
                     "1.^]", "1.^-2", "1.2^,", "1.2 ^x"):
            self.tells(10, f"(or) marked {text}")

    def test_numbers_that_are_none(self):
        for number in ("00", "01", "007", "0000", "1000", "1001", "99999", "123456789012345678901234567890"):
            self.tells(2, f"(or) marked ^{number}.1")
            self.tells(2, f"(or) marked 1.^{number}")
            self.tells(2, f"(or) marked 1.2 ^{number}.1")
            self.tells(2, f"(or) marked 1.2 1.^{number} 3.4")
            self.tells(2, f"impaled [(or); (or) augmented (or) marked ^{number}")

    def test_a_number_is_told_when_it_has_been_read(self):
        self.tells(2, "(or) marked ^01 .2")
        self.tells(2, "(or) marked ^1000x")
        self.tells(2, "(or) marked 200.^01")
        self.tells(2, "(or) marked 200.^1000")
        self.tells(10, "(or) marked 200^ 01")
        self.tells(10, "(or) marked 200.^ 01")

    def test_beyond_their_bounds(self):
        for mark in ("128.1", "128.255", "999.1", "0.0", "127.0", "0.256", "127.256", "0.999", "128.0", "999.999"):
            self.tells(11, f"(or) marked ^{mark}")
            self.tells(11, f"(or) marked 127.255 0.1 \n^{mark} 1.1")
            self.tells(11, f"impaled [(or) augmented (or)marked^{mark}; x")
        for mark in ("0.1", "127.1", "0.255", "127.255"):
            self.assertTrue(fine(f"(or) marked {mark}"))

    def test_beyond_their_bounds_whatever_stands_behind(self):
        for behind in ("x", ".", " 01.1", " (", "]", " 999.1", " 1"):
            self.tells(11, "(or) marked ^128.1" + behind)

    def test_a_sixty_first(self):
        for behind in ("0.1", "1", "0", "00", "1000.1", "999.999", "9 .", "5x"):
            for blank in (" ", "\n", "  \n"):
                self.tells(12, "(or) marked" + " 1.1" * 60 + f"{blank}^{behind}")
                self.tells(12, "impaled [(or); (or) augmented (or) marked" + " 1.1" * 60 + f"{blank}^{behind}")
        self.tells(10, "(or) marked" + " 1.1" * 60 + " ^.1")
        self.tells(10, "(or) marked" + " 1.1" * 60 + "^.1")
        self.tells(11, "(or) marked" + " 1.1" * 59 + " ^1.0 1.1")
        self.assertTrue(fine("(or) marked" + " 1.1" * 60))

    def test_each_coat_has_its_own_sixty(self):
        full = "(or) marked" + " 1.1" * 60
        self.assertTrue(fine(f"impaled [{full}; {full}]"))


class Depth(Faults, unittest.TestCase):
    def test_five_deep_whatever_stands_there(self):
        for there in ("", "(or)", "(", "impaled [", "quarterly", "]", ";", "x", "#", "0", "()"):
            for blanks in ("", " ", "\n \n"):
                self.tells(13, f"impaled [impaled [impaled [impaled [{blanks}^{there}")
                self.tells(13, f"impaled[(or); pretence[(or);quarterly[(or);impaled[{blanks}^{there}")

    def test_within_each_four(self):
        for first in KINDS:
            for second in KINDS:
                for third in KINDS:
                    for fourth in KINDS:
                        self.tells(13, f"{first} [{second} [{third} [{fourth} [^(or); (or)]; (or)]; (or)]; (or)]")
                        self.tells(13, f"{first} [(or); {second} [(or); {third} [(or); {fourth} [^(or); (or)]]]]")
                    self.assertTrue(fine(f"{first} [{second} [{third} [(or); (or)]; (or)]; (or)]"))
                    self.assertTrue(fine(f"{first} [(or); {second} [(or); {third} [(or); (or)]]]"))

    def test_not_before_its_bracket(self):
        three = "impaled [impaled [impaled ["
        self.tells(10, f"{three}impaled ^")
        self.tells(10, f"{three}impaled ^(or)")
        self.tells(10, f"{three}^x")
        self.tells(10, f"{three}(or); impaled^]")
        self.tells(13, f"{three}(or); impaled[^]")

    def test_brackets_that_are_closed_do_not_count(self):
        self.assertTrue(fine("impaled [impaled [impaled [(or); (or)]; (or)]; impaled [(or); impaled [(or); (or)]]]"))


class Quarterly(Faults, unittest.TestCase):
    def of(self, many):
        return "; ".join(["(or)"] * many)

    def test_of_one_and_of_more_than_nine(self):
        for many in (1, 10, 11, 20):
            self.tells(14, f"^quarterly [{self.of(many)}]")
            self.tells(14, f" \n^quarterly\n[{self.of(many)} ]")
            self.tells(14, f"impaled [^quarterly [{self.of(many)}]; (or)]")
            self.tells(14, f"quarterly [(or); (or); pretence [(or); ^quarterly[{self.of(many)}]]]")
        for many in range(2, 10):
            self.assertTrue(fine(f"quarterly [{self.of(many)}]"))

    def test_of_one_that_has_several(self):
        self.tells(14, "^quarterly [quarterly [(or); (or)]]")
        self.tells(14, "^quarterly [impaled [(or); (or)]]")
        self.tells(14, "quarterly [^quarterly [(or)]]")
        self.tells(14, "quarterly [(or); ^quarterly [(or)]; quarterly [(or)]]")

    def test_when_its_bracket_has_been_read(self):
        for many in (1, 10, 11):
            self.tells(10, f"quarterly [{self.of(many)}^")
            self.tells(10, f"quarterly [{self.of(many)} ^x]")
            self.tells(10, f"quarterly [{self.of(many)}; ^]")
            self.tells(3, f"quarterly [{self.of(many)[:-3]}^)")
            self.tells(5, f"quarterly [{self.of(many)}; (per pale or and ^or)]")
            self.tells(11, f"quarterly [{self.of(many)} marked ^0.0]")
            self.tells(14, f"^quarterly [{self.of(many)}] x")
            self.tells(14, f"^quarterly [{self.of(many)}]]")
            self.tells(14, f"impaled [^quarterly [{self.of(many)}]")
        self.tells(14, f"quarterly [{self.of(9)}; ^quarterly [(or)]]")
        self.tells(13, f"quarterly [{self.of(10)}; impaled [impaled [impaled [^")


class FirstMet(Faults, unittest.TestCase):
    def test_the_first_from_the_left(self):
        self.tells(10, "impaled [(or) ^(x); (or")
        self.tells(3, "impaled [(^x) (x); (or")
        self.tells(11, "impaled [(or) marked ^0.0; (x)]")
        self.tells(1, "impaled [(^#) marked 0.0; (x)]")
        self.tells(2, "(or) marked 1.2 ^00.1 0.0")
        self.tells(11, "(or) marked ^0.0 00.1")
        self.tells(12, "impaled [(or) marked" + " 1.1" * 60 + " ^0.0; (x)]")
