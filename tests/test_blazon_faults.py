"""Point 6: the faults of blazons, 1 to 8, wherever a blazon may stand."""

import unittest

from heraldcoats.coats import read
from tests.helper import (LINE_WORDS, MANY_WORDS, ONE_WORDS, ORDINARY_WORDS, PARTED_WORDS, SEVERAL_WORDS,
                          TINCTURE_WORDS, VARIED_WORDS, Faults, signs)

# What may stand before and behind a blazon: first and later, the canton's, within other coats.
AROUND = [("(", ")"), ("(", ") marked 0.0"), (" \n(or)\naugmented (", ")"), ("impaled [(", "); (or, x)]"),
          ("pretence [(or) augmented (gules, a fess or); (", ") marked 3.4]"),
          ("quarterly [(or); impaled [(or) marked 1.2; (per pale or and gules) augmented (", ")]]")]

LINES = [word.strip() for word in LINE_WORDS[1:]]
ORDINARIES = sorted({words.split()[1] for words in ORDINARY_WORDS})
SINGLES = [words.split()[1] for words in ONE_WORDS]
SIZES = ["small", "lesser", "great"]
FIELDS = TINCTURE_WORDS + ["per", "quarterly", "gyronny", "barry", "paly", "bendy", "chevronny", "chequy", "lozengy"]
FILLS = FIELDS + ["counterchanged"]
MANNERS = ["fess", "pale", "bend", "chief", "base"]
OTHERS = ["and", "of", "a", "an", "in", "sinister", "straight", "rows", "one", "s", "x", "orr", "o", "6", ","]
ALL = sorted(set(FILLS + LINES + ORDINARIES + SINGLES + SEVERAL_WORDS + SIZES + MANY_WORDS + OTHERS))

TWO = "per pale or and gules"
# What may stand behind a part of a blazon; all else is fault 3. A ) is there where the blazon may end.
BEHIND = {
    "": FIELDS,
    "or": [",", ")"],
    "per": ["pale", "fess", "bend", "chevron", "saltire"],
    "per pale": LINES + TINCTURE_WORDS,
    "per fess": LINES + TINCTURE_WORDS,
    "per bend": LINES + TINCTURE_WORDS + ["sinister"],
    "per bend sinister": LINES + TINCTURE_WORDS,
    "per chevron": LINES + TINCTURE_WORDS,
    "per saltire": LINES + TINCTURE_WORDS,
    "quarterly": LINES + TINCTURE_WORDS,
    "gyronny": LINES + TINCTURE_WORDS,
    "per bend wavy": TINCTURE_WORDS,
    "gyronny wavy": TINCTURE_WORDS,
    "per pale or": ["and"],
    "per pale or and": TINCTURE_WORDS,
    TWO: [",", ")"],
    "barry": ["of"],
    "paly": ["of"],
    "bendy": ["of", "sinister"],
    "bendy sinister": ["of"],
    "chevronny": ["of"],
    "chequy": ["of"],
    "lozengy": ["of"],
    "barry of": ["6"],
    "bendy sinister of": ["6"],
    "chequy of": ["6"],
    "barry of 6": LINES + TINCTURE_WORDS,
    "paly of 6": LINES + TINCTURE_WORDS,
    "bendy of 6": LINES + TINCTURE_WORDS,
    "bendy sinister of 6": LINES + TINCTURE_WORDS,
    "chevronny of 6": LINES + TINCTURE_WORDS,
    "chequy of 6": TINCTURE_WORDS,
    "lozengy of 6": TINCTURE_WORDS,
    "barry of 6 invected": TINCTURE_WORDS,
    "barry of 6 or": ["and"],
    "barry of 6 or and": TINCTURE_WORDS,
    "barry of 6 or and gules": [",", ")"],
    TWO + ",": ["a", "an"] + MANY_WORDS,
    TWO + ", a": ORDINARIES + SIZES + SINGLES,
    TWO + ", an": SIZES + SINGLES,
    TWO + ", a fess": LINES + FILLS,
    TWO + ", a quarter": LINES + FILLS,
    TWO + ", a bend": LINES + FILLS + ["sinister"],
    TWO + ", a bend sinister": LINES + FILLS,
    TWO + ", a bend sinister wavy": FILLS,
    TWO + ", a fess wavy": FILLS,
    TWO + ", a fess wavy per": ["pale", "fess", "bend", "chevron", "saltire"],
    TWO + ", a fess wavy quarterly": LINES + TINCTURE_WORDS,
    TWO + ", a fess counterchanged": [",", ")"],
    TWO + ", a fess azure": [",", ")"],
    TWO + ", a fess azure,": ["a", "an"] + MANY_WORDS,
    TWO + ", a small": SINGLES,
    TWO + ", a mullet": FILLS + ["in"],
    TWO + ", an annulet": FILLS + ["in"],
    TWO + ", a great annulet": FILLS + ["in"],
    TWO + ", a mullet in": MANNERS,
    TWO + ", a mullet in fess": FILLS,
    TWO + ", a mullet in bend": FILLS + ["sinister"],
    TWO + ", a mullet in bend sinister": FILLS,
    TWO + ", a mullet in base or": [",", ")"],
    TWO + ", two": SIZES + SEVERAL_WORDS,
    TWO + ", ten": SIZES + SEVERAL_WORDS,
    TWO + ", two lesser": SEVERAL_WORDS,
    TWO + ", two mullets": FILLS + ["in"],
    TWO + ", two great mullets in": MANNERS,
    TWO + ", two mullets in bend": FILLS + ["sinister"],
    TWO + ", two mullets in chief counterchanged": [",", ")"],
}


class InBlazons(Faults, unittest.TestCase):
    def faulty(self, kind, blazon):
        for before, behind in AROUND:
            self.tells(kind, before + blazon + behind)


class Foreign(InBlazons):
    def test_a_byte_that_cannot_be(self):
        for blazon in ("^#", "^Or", "or^R", "or^.", "or ^;", "or, ^[a fess gules", "^(or", "or^]",
                       "per ^Pale or and gules", "barry of ^-6 or and gules", "or,\n^\t", "or, a ^'", "or, two ^&",
                       "per pale or ^+ gules"):
            self.faulty(1, blazon)

    def test_every_byte(self):
        fine = set(signs("abcdefghijklmnopqrstuvwxyz0123456789, \n)"))
        for byte in range(256):
            for before, place in (("(", 1), ("(or ", 4), ("(or, a fess ", 12), ("(or) augmented (barry of ", 25)):
                answer = read(signs(before) + [byte] + signs(" or)"))
                if byte not in fine:
                    self.assertEqual(answer, [-1, place], (byte, before))
                else:
                    self.assertNotEqual(answer[0], -1, (byte, before))

    def test_bytes_that_mean_something_stand_there_for_what_they_are(self):
        self.assertEqual([read(signs("(" + sign + " or)")) for sign in "ao0159,)"],
                         [[-3, 1], [-3, 1], [-2, 1], [-3, 1], [-3, 1], [-3, 1], [-3, 1], [-3, 1]])


class Numbers(InBlazons):
    def test_numbers_that_are_none(self):
        for number in ("0", "00", "06", "0000006", "1000", "1001", "9999", "10000", "12345678901234567890"):
            self.faulty(2, f"barry of ^{number} or and gules")
            self.faulty(2, f"barry of^{number}or and gules")
            self.faulty(2, f"^{number}")
            self.faulty(2, f"or ^{number}")
            self.faulty(2, f"or, a ^{number}")
            self.faulty(2, f"per ^{number} or and gules")

    def test_a_number_where_none_may_stand(self):
        for number in ("1", "6", "24", "999"):
            self.faulty(3, f"^{number}")
            self.faulty(3, f"or ^{number}")
            self.faulty(3, f"or, ^{number} roundels gules")
            self.faulty(3, f"barry of 6 ^{number} or and gules")

    def test_pieces(self):
        for pieces in (1, 25, 26, 99, 100, 240, 999):
            for way in VARIED_WORDS:
                self.faulty(4, f"{way} of ^{pieces} or and gules")
        self.faulty(4, "or, a fess barry of ^1 or and gules")

    def test_pieces_whatever_stands_behind(self):
        for behind in ("", "#", "or and or", "0", ", ", "wavy"):
            self.faulty(4, f"paly of ^25 {behind}")


class Grammar(InBlazons):
    def test_every_word_behind_every_part(self):
        for before, fine in BEHIND.items():
            for word in ALL:
                self.behind(before, word, word in fine)

    def behind(self, before, word, fits):
        start = f"({before} "
        answer = read(signs(f"{start}{word})"))
        if not fits:
            self.assertEqual(answer, [-3, len(start)], (before, word))
        else:
            # What can stand there is no fault 3: that may only come behind it.
            self.assertFalse(answer[0] == -3 and answer[1] < len(start) + len(word), (before, word))

    def test_the_end_behind_every_part(self):
        for before, fine in BEHIND.items():
            for blanks in ("", " ", "\n\n"):
                answer = read(signs(f"({before}{blanks})"))
                if ")" in fine:
                    self.assertGreater(answer[0], 0, before)
                else:
                    self.assertEqual(answer, [-3, 1 + len(before + blanks)], before)

    def test_wherever_a_blazon_stands(self):
        for blazon in ("^", "  ^", "^murrey", "^o", "^oR", "or ^x", "or, ^", "or,^,",
                       "per ^", "per ^pal", "^perpale or and gules", "chequy of 6 ^wavy or and gules",
                       "lozengy of 2 ^indented or and gules", "or, a fess ^straight gules", "or, a roundel in ^rows or",
                       "or, ^one roundel gules", "or, two ^roundel gules", "or, a ^roundels gules", "or, two ^bends or",
                       "or, a ^cros or", "or, a ^saltires or", "or, three ^crosss or", "or ^a fess or",
                       "or, a fess wavy ^wavy or", "or, a fess ^in pale or", "or, a small ^small mullet or",
                       "or, a mullet ^small or", "quarterly ^of 6 or and gules", "per bend ^dexter or and gules",
                       "or ^and gules", "per pale or ^gules", "per pale or and ^"):
            self.faulty(3, blazon)


class Tinctures(InBlazons):
    def test_the_same_twice(self):
        for word in TINCTURE_WORDS:
            for head in PARTED_WORDS + ["per pale wavy", "barry of 6", "bendy sinister of 2 wavy", "chequy of 24"]:
                self.faulty(5, f"{head} {word} and ^{word}")
                self.faulty(5, f"or, a fess {head} {word} and ^{word}")
                self.faulty(5, f"or, two mullets in fess {head} {word} and ^{word}")

    def test_whatever_stands_behind(self):
        for behind in ("", " #", " 0", " or", ",", " counterchanged"):
            self.faulty(5, "per pale or and ^or" + behind)

    def test_twice_in_two_fields_is_no_fault(self):
        self.assertGreater(read(signs("(or, a fess or, a pale per pale or and gules, a bend or)"))[0], 0)


class Counterchanged(InBlazons):
    def test_over_a_plain_field(self):
        for layer in ("a fess", "a fess wavy", "a mullet", "an annulet in fess", "ten great swords in bend sinister"):
            self.faulty(6, f"or, {layer} ^counterchanged")
            self.faulty(6, f"or, a pale per pale or and gules, {layer} ^counterchanged")
            for field in ("per pale or and gules", "barry of 6 or and gules"):
                self.assertGreater(read(signs(f"({field}, a pale or, {layer} counterchanged)"))[0], 0)

    def test_whatever_stands_behind(self):
        for behind in ("", " #", " 0", " or", ",", ", a fess or"):
            self.faulty(6, "or, a fess ^counterchanged" + behind)

    def test_by_the_blazons_own_field(self):
        plain, changed = "(or)", "(per pale or and gules, a fess counterchanged)"
        self.assertGreater(read(signs(f"{plain} augmented {changed}"))[0], 0)
        self.assertGreater(read(signs(f"{changed} augmented {plain}"))[0], 0)
        self.tells(6, f"{changed} augmented (or, a fess ^counterchanged)")
        self.tells(6, f"impaled [{changed}; (or, a fess ^counterchanged)]")


class Articles(InBlazons):
    def test_a_for_an_and_an_for_a(self):
        for words in ONE_WORDS:
            article, charge = words.split()
            self.faulty(7, f"or, ^{'a' if article == 'an' else 'an'} {charge} gules")
        for size in SIZES:
            for charge in ("annulet", "mullet"):
                self.faulty(7, f"or, ^an {size} {charge} gules")

    def test_once_the_next_word_has_been_read(self):
        for behind in ("", " #", " 0", " or", ",", " in", " in in", "\n5"):
            self.faulty(7, "or, ^a annulet" + behind)
            self.faulty(7, "or, ^an mullet" + behind)
            self.faulty(7, "or, ^an small" + behind)

    def test_only_where_the_next_word_could_stand(self):
        for words in ORDINARY_WORDS:
            self.faulty(3, f"or, an ^{words[2:]} gules")
        for article in ("a", "an"):
            for word in ("annulets", "mullets", "or", "in", "an", "a", "counterchanged", "two", ",", "7", "arms"):
                self.faulty(3, f"or, {article} ^{word} gules")
            self.faulty(3, f"or, {article} ^")
            self.faulty(1, f"or, {article} ^#")
            self.faulty(2, f"or, {article} ^0")
        self.faulty(3, "or, a small ^fess gules")
        self.faulty(3, "or, a small ^annulets gules")

    def test_behind_a_size_the_charge_does_not_count(self):
        for size in SIZES:
            for charge in SINGLES:
                self.assertGreater(read(signs(f"(or, a {size} {charge} gules)"))[0], 0)


class Layers(InBlazons):
    def test_a_ninth(self):
        self.assertGreater(read(signs("(or" + ", a fess gules" * 8 + ")"))[0], 0)
        self.faulty(8, "or" + ", a fess gules" * 8 + "^, a fess gules")
        self.faulty(8, "per pale or and gules" + ", two small mullets in base counterchanged" * 8 + " ^, a")

    def test_whatever_stands_behind(self):
        for behind in ("", " #", " 0", ",", " an fess or", " a annulet gules", " a fess counterchanged"):
            self.faulty(8, "or" + ", a fess gules" * 8 + "^," + behind)

    def test_an_earlier_fault_comes_first(self):
        self.faulty(3, "or" + ", a fess gules" * 7 + ", a fess ^, a fess gules")
        self.faulty(3, "or" + ", a fess gules" * 8 + " ^gules, a fess gules")

    def test_each_blazon_has_its_own_eight(self):
        eight = "(or" + ", a fess gules" * 8 + ")"
        self.assertGreater(read(signs(f"impaled [{eight} augmented {eight}; {eight}]"))[0], 0)


class FirstMet(InBlazons):
    def test_of_two_the_first(self):
        for kind, blazon in ((3, "^x #"), (1, "^# x"), (2, "^0 #"), (1, "^#0"), (4, "barry of ^1 #"),
                             (3, "barry ^1 of 1"), (2, "barry of ^0 or and or"), (5, "per pale or and ^or, an fess or"),
                             (7, "or, ^an mullet counterchanged"), (6, "or, a fess ^counterchanged, a annulet or"),
                             (3, "or, a fess ^and, a annulet or"), (3, "or ^or #"), (1, "or ^# or")):
            self.faulty(kind, blazon)

    def test_the_first_blazon_with_a_fault(self):
        self.tells(5, "(per pale or and ^or) augmented (x)")
        self.tells(3, "impaled [(^x); (per pale or and or)]")
        self.tells(7, "impaled [(or) augmented (or, ^an fusil or); (#)]")
