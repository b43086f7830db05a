"""Rows of bytes parted into tokens.

A token is a pair of its kind and its value. The kind is "name" (the value: a
tuple of bytes), "string" (a list of bytes), "number" (a whole number), or the
word or sign itself (no value).
"""

from remade.refusals import NoFormula

WORDS = ("if", "then", "else", "get", "first", "rest", "size")
SIGNS = {61: "=", 38: "&", 40: "(", 41: ")", 44: ",", 59: ";"}
BLANKS = (32, 10)
QUOTE = 34
BACKSLASH = 92
UNDERSCORE = 95
LOWEST_IN_STRING = 32
# What a byte behind a backslash stands for: a quote, a backslash, a newline.
ESCAPES = {34: 34, 92: 92, 110: 10}
LONGEST_NAME = 16
LONGEST_NUMBER = 4


def is_letter(byte):
    return ord("a") <= byte <= ord("z")


def is_digit(byte):
    return ord("0") <= byte <= ord("9")


def is_name_byte(byte):
    return is_letter(byte) or is_digit(byte) or byte == UNDERSCORE


def word_of(run):
    """The word that a row of bytes spells, or None."""
    for word in WORDS:
        if list(run) == [ord(sign) for sign in word]:
            return word
    return None


def is_name(run):
    """Whether a row of bytes, whatever is in it, is a name."""
    if len(run) < 1 or len(run) > LONGEST_NAME or not is_letter(run[0]):
        return False
    return all([is_name_byte(byte) for byte in run]) and word_of(run) is None


def number_of(digits):
    value = 0
    for digit in digits:
        value = value * 10 + digit - ord("0")
    return value


class Parting:
    """A row of bytes, and how far it has been parted."""

    def __init__(self, row):
        self.row = row
        self.at = 0

    def has_more(self):
        return self.at < len(self.row)

    def take_byte(self):
        if not self.has_more():
            raise NoFormula()
        byte = self.row[self.at]
        self.at += 1
        return byte

    def take_run(self, belongs):
        """The bytes from here on, as many as belong to one token."""
        start = self.at
        while self.has_more() and belongs(self.row[self.at]):
            self.at += 1
        return self.row[start:self.at]

    def skip_blanks(self):
        while self.has_more() and self.row[self.at] in BLANKS:
            self.at += 1

    def take_token(self):
        byte = self.row[self.at]
        if is_letter(byte):
            return self.take_name()
        if is_digit(byte):
            return self.take_number()
        if byte == QUOTE:
            return self.take_string()
        if byte not in SIGNS:
            raise NoFormula()
        self.at += 1
        return (SIGNS[byte], None)

    def take_name(self):
        run = self.take_run(is_name_byte)
        word = word_of(run)
        if word is not None:
            return (word, None)
        if not is_name(run):
            raise NoFormula()
        return ("name", run)

    def take_number(self):
        digits = self.take_run(is_digit)
        if len(digits) > LONGEST_NUMBER:
            raise NoFormula()
        return ("number", number_of(digits))

    def take_string(self):
        self.take_byte()
        text = []
        byte = self.take_byte()
        while byte != QUOTE:
            if byte < LOWEST_IN_STRING:
                raise NoFormula()
            if byte == BACKSLASH:
                byte = self.take_escaped()
            text.append(byte)
            byte = self.take_byte()
        return ("string", text)

    def take_escaped(self):
        byte = self.take_byte()
        if byte not in ESCAPES:
            raise NoFormula()
        return ESCAPES[byte]


def tokens_of(row):
    """The tokens of a row (a tuple of bytes); NoFormula if it can't be parted."""
    parting = Parting(row)
    tokens = []
    parting.skip_blanks()
    while parting.has_more():
        tokens.append(parting.take_token())
        parting.skip_blanks()
    return tokens
