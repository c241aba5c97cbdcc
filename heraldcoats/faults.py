"""What can be wrong with words, by the numbers that read tells it by."""

# Of a blazon.
FOREIGN_BYTE = 1
NO_NUMBER = 2
OTHER_TOKEN = 3
WRONG_PIECES = 4
SAME_TINCTURE = 5
CHANGED_OVER_PLAIN = 6
WRONG_ARTICLE = 7
NINTH_LAYER = 8
# Of the words around blazons.
OTHER_SIGN = 10
MARK_OUT_OF_BOUNDS = 11
MARK_TOO_MANY = 12
TOO_DEEP = 13
WRONG_QUARTERS = 14


# Raised for words that are no coat's, with the kind of the first fault that is met and its place.
class Misread(Exception):
    def __init__(self, kind, place):
        self.kind = kind
        self.place = place
