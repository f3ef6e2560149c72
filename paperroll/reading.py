"""Reading a text, a list of bytes, from the left, and the place where it can't go on."""

LETTERS = "abcdefghijklmnopqrstuvwxyz"
FIRST_LETTER = 97
LAST_LETTER = 122
FIRST_DIGIT = 48
LAST_DIGIT = 57
BLANK = 32
LINE_END = 10
# No byte has this number: it stands where the text has ended.
NO_BYTE = -1
# Above every number that a text may have; a longer one needn't be reckoned out.
TOO_GREAT = 10000


class Fault(Exception):
    """The text isn't what it has to be; place is the first one where that is seen."""

    def __init__(self, place):
        Exception.__init__(self)
        self.place = place


class Reader:
    """A text and the place, counted from 0, up to which it has been read."""

    def __init__(self, text):
        self.text = text
        self.place = 0

    def at_end(self):
        return self.place == len(self.text)

    def byte_here(self):
        if self.at_end():
            return NO_BYTE
        return self.text[self.place]

    def expect(self, byte):
        if self.byte_here() != byte:
            raise Fault(self.place)
        self.place += 1

    def expect_word(self, word):
        for letter in word:
            self.expect(ord(letter))

    def read_number(self, least, most):
        start = self.place
        value = 0
        while FIRST_DIGIT <= self.byte_here() <= LAST_DIGIT:
            value = min(10 * value + self.byte_here() - FIRST_DIGIT, TOO_GREAT)
            self.place += 1
        digits = self.place - start
        if digits == 0 or not least <= value <= most:
            raise Fault(start)
        if digits > 1 and self.text[start] == FIRST_DIGIT:
            raise Fault(start)
        return value

    def read_letters(self):
        letters = []
        while FIRST_LETTER <= self.byte_here() <= LAST_LETTER:
            letters.append(LETTERS[self.byte_here() - FIRST_LETTER])
            self.place += 1
        return "".join(letters)
