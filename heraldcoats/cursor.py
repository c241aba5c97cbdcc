"""The signs of a text, gone through from the left."""

SIGNS = "\n abcdefghijklmnopqrstuvwxyz0123456789,.;()[]"
# Bytes that can stand nowhere are told apart from all others, not from one another.
FOREIGN_SIGN = "?"


def text_of(numbers):
    signs = {}
    for sign in SIGNS:
        signs[ord(sign)] = sign
    return "".join([signs.get(number, FOREIGN_SIGN) for number in numbers])


class Cursor:
    def __init__(self, text):
        self.text = text
        self.place = 0

    # Empty at the text's end.
    def sign(self):
        return self.text[self.place:self.place + 1]

    def skip_blanks(self):
        while self.sign().isspace():
            self.place = self.place + 1

    def take_sign(self):
        sign = self.sign()
        self.place = self.place + 1
        return sign

    # Empty where no letter stands.
    def take_letters(self):
        start = self.place
        while self.sign().isalpha():
            self.place = self.place + 1
        return self.text[start:self.place]

    # Empty where no digit stands.
    def take_digits(self):
        start = self.place
        while self.sign().isdigit():
            self.place = self.place + 1
        return self.text[start:self.place]


# Below 1,000 and not begun with 0; where 0 itself may stand is for others to say.
def is_number(digits):
    return len(digits) <= 3 and not digits.startswith("0")
