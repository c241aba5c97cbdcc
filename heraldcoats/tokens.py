"""The tokens of a blazon: words, numbers, commas, and the ) that ends it."""

from heraldcoats.cursor import is_number
from heraldcoats.faults import FOREIGN_BYTE, NO_NUMBER, Misread

COMMA = ","
END = ")"


class Token:
    def __init__(self, content, place):
        self.content = content
        self.place = place


def take_content(cursor):
    place = cursor.place
    if cursor.sign().isalpha():
        return cursor.take_letters()
    if cursor.sign().isdigit():
        digits = cursor.take_digits()
        if not is_number(digits):
            raise Misread(NO_NUMBER, place)
        return digits
    if cursor.sign() in (COMMA, END):
        return cursor.take_sign()
    raise Misread(FOREIGN_BYTE, place)


# A token's own fault is told where the grammar comes to it, so none is taken from the text before it is asked for.
class Tokens:
    def __init__(self, cursor):
        self.cursor = cursor
        self.ahead = None

    def peek(self):
        if self.ahead is None:
            self.cursor.skip_blanks()
            place = self.cursor.place
            self.ahead = Token(take_content(self.cursor), place)
        return self.ahead

    def take(self):
        token = self.peek()
        self.ahead = None
        return token
