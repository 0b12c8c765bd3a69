"""The words, names and numbers of a linkage's text, read byte by byte."""

LINE_END = 10
BLANK = 32
MINUS = 45
SLASH = 47
ZERO = 48
NINE = 57
LETTER_A = 65
LETTER_Z = 90
TEXT_END = 256

FIRST_WORDS = ("pin", "crank", "dyad", "rider")


class TextFault(ValueError):
    """The text can't be a linkage's; place tells how many bytes stand before the fault."""

    def __init__(self, place):
        self.place = place


class Reader:
    """A text, and how many of its bytes have been read."""

    def __init__(self, text):
        self.text = text
        self.place = 0

    def here(self):
        """The byte that comes next; behind the last one a number that no byte is."""
        if self.place < len(self.text):
            return self.text[self.place]
        return TEXT_END

    def at_end(self):
        return self.place == len(self.text)

    def at_digit(self):
        return ZERO <= self.here() <= NINE

    def step(self, allowed):
        """Goes on by one byte, if that byte is allowed to stand here."""
        if not allowed:
            raise TextFault(self.place)
        self.place += 1

    def expect(self, byte):
        self.step(self.here() == byte)

    def first_word(self):
        # No two first words share a first letter, so that letter settles which one it must be.
        for word in FIRST_WORDS:
            if self.here() == ord(word[0]):
                for letter in word:
                    self.expect(ord(letter))
                return word
        raise TextFault(self.place)

    def name(self):
        start = self.place
        self.step(LETTER_A <= self.here() <= LETTER_Z)
        while self.at_digit():
            digits = self.place - start - 1
            self.step(digits < 2 and (digits > 0 or self.here() != ZERO))
        return tuple(self.text[start:self.place])

    def number(self):
        """A number without a sign."""
        start = self.place
        self.step(self.at_digit())
        value = self.text[start] - ZERO
        while self.at_digit():
            digit = self.here() - ZERO
            self.step(value != 0 and self.place - start < 3)
            value = 10 * value + digit
        return value

    def signed_number(self):
        if self.here() != MINUS:
            return self.number()
        self.expect(MINUS)
        if self.here() == ZERO:
            raise TextFault(self.place)
        return -self.number()
