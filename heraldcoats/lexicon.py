"""The words of the tables, each in the place of its number."""

TINCTURES = ("or", "argent", "gules", "azure", "sable", "vert", "purpure", "ermine", "vair")
# An empty text stands in the place of what no word says: straight, by rows, of the usual size.
LINES = ("", "wavy", "embattled", "indented", "engrailed", "invected")
PARTED_WAYS = ("per pale", "per fess", "per bend", "per bend sinister", "per chevron", "per saltire", "quarterly",
               "gyronny")
VARIED_WAYS = ("barry", "paly", "bendy", "bendy sinister", "chevronny", "chequy", "lozengy")
ORDINARIES = ("chief", "base", "pale", "fess", "bend", "bend sinister", "chevron", "cross", "saltire", "pile",
              "bordure", "canton", "quarter")
CHARGES = ("roundel", "annulet", "lozenge", "mascle", "fusil", "billet", "mullet", "crescent", "increscent",
           "crosslet", "saltorel", "escutcheon", "tower", "sword", "wheel", "arrow")
MANNERS = ("", "in fess", "in pale", "in bend", "in bend sinister", "in chief", "in base")
# Sizes are numbered from 1, counts from 2: one alone is told by a or an.
SIZES = ("small", "lesser", "", "great")
COUNTS = ("two", "three", "four", "five", "six", "seven", "eight", "nine", "ten")
FIRST_SIZE = 1
FIRST_COUNT = 2

STRAIGHT = 0
BY_ROWS = 0
USUAL_SIZE = 3


# Goes by the word right behind it, be that a size or a charge.
def article_before(word):
    return "an" if word[0] in "aeiou" else "a"


def several(charge):
    return charge + "s"
