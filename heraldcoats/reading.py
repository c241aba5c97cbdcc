"""From words to the coat that they say, or to the first fault that is met."""

from heraldcoats.blazons import read_arms
from heraldcoats.bounds import FEWEST_QUARTERS, LEAST_K, MOST_DEEP, MOST_G, MOST_K, MOST_MARKS, MOST_QUARTERS
from heraldcoats.cursor import Cursor, is_number, text_of
from heraldcoats.faults import (MARK_OUT_OF_BOUNDS, MARK_TOO_MANY, NO_NUMBER, OTHER_SIGN, TOO_DEEP, WRONG_QUARTERS,
                                Misread)
from heraldcoats.model import Impaled, Mark, Marked, Pretence, Quarterly
from heraldcoats.tokens import END, Tokens


# Blanks are not passed over here: within a mark none may stand.
def want_sign(cursor, sign):
    if cursor.sign() != sign:
        raise Misread(OTHER_SIGN, cursor.place)
    cursor.take_sign()


def want_sign_behind_blanks(cursor, sign):
    cursor.skip_blanks()
    want_sign(cursor, sign)


def pass_sign(cursor, sign):
    cursor.skip_blanks()
    if cursor.sign() != sign:
        return False
    cursor.take_sign()
    return True


def pass_word(cursor, word):
    cursor.skip_blanks()
    start = cursor.place
    if cursor.take_letters() == word:
        return True
    cursor.place = start
    return False


# All up to the next ) is the blazon: without that one there is none, whatever stands there.
def read_blazon(cursor):
    want_sign_behind_blanks(cursor, "(")
    if cursor.text.find(END, cursor.place) < 0:
        raise Misread(OTHER_SIGN, len(cursor.text))
    return read_arms(Tokens(cursor))


def take_mark_number(cursor):
    start = cursor.place
    digits = cursor.take_digits()
    if digits == "":
        raise Misread(OTHER_SIGN, start)
    if digits != "0" and not is_number(digits):
        raise Misread(NO_NUMBER, start)
    return int(digits)


def read_mark(cursor):
    start = cursor.place
    g = take_mark_number(cursor)
    want_sign(cursor, ".")
    k = take_mark_number(cursor)
    if g > MOST_G or k < LEAST_K or k > MOST_K:
        raise Misread(MARK_OUT_OF_BOUNDS, start)
    return Mark(g, k)


def read_marks(cursor):
    cursor.skip_blanks()
    marks = [read_mark(cursor)]
    cursor.skip_blanks()
    while cursor.sign().isdigit():
        if len(marks) == MOST_MARKS:
            raise Misread(MARK_TOO_MANY, cursor.place)
        marks.append(read_mark(cursor))
        cursor.skip_blanks()
    return marks


def read_marked(cursor):
    arms = read_blazon(cursor)
    canton = read_blazon(cursor) if pass_word(cursor, "augmented") else None
    marks = read_marks(cursor) if pass_word(cursor, "marked") else []
    return Marked(arms, canton, marks)


# As many coats as stand there are read: that they are too few or too many is told once the ] has been met.
def read_quarterly(cursor, depth, start):
    coats = [read_coat(cursor, depth + 1)]
    while pass_sign(cursor, ";"):
        coats.append(read_coat(cursor, depth + 1))
    want_sign_behind_blanks(cursor, "]")
    if len(coats) < FEWEST_QUARTERS or len(coats) > MOST_QUARTERS:
        raise Misread(WRONG_QUARTERS, start)
    return Quarterly(coats)


def read_two(cursor, depth):
    first = read_coat(cursor, depth + 1)
    want_sign_behind_blanks(cursor, ";")
    second = read_coat(cursor, depth + 1)
    want_sign_behind_blanks(cursor, "]")
    return (first, second)


def read_coats(cursor, depth):
    start = cursor.place
    word = cursor.take_letters()
    if word not in ("quarterly", "impaled", "pretence"):
        raise Misread(OTHER_SIGN, start)
    want_sign_behind_blanks(cursor, "[")
    if word == "quarterly":
        return read_quarterly(cursor, depth, start)
    both = read_two(cursor, depth)
    if word == "impaled":
        return Impaled(both[0], both[1])
    return Pretence(both[0], both[1])


# The depth is 1 for the whole, and one more for each bracket that this coat is in.
def read_coat(cursor, depth):
    cursor.skip_blanks()
    if depth > MOST_DEEP:
        raise Misread(TOO_DEEP, cursor.place)
    if cursor.sign() == "(":
        return read_marked(cursor)
    return read_coats(cursor, depth)


def read_words(numbers):
    cursor = Cursor(text_of(numbers))
    coat = read_coat(cursor, 1)
    cursor.skip_blanks()
    if cursor.sign() != "":
        raise Misread(OTHER_SIGN, cursor.place)
    return coat
