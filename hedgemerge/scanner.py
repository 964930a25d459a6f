"""From a text to its tokens. A token is a tuple of its kind and its word."""

from hedgemerge.errors import NoHedge
from hedgemerge.signs import BACKSLASH, BLANK, DIGIT_0, DIGIT_9, LAST_PLAIN, LEFT_PAREN
from hedgemerge.signs import LETTER_A, LETTER_Z, LINE_FEED, QUOTE, RIGHT_PAREN

NAME = 0
LEAF = 1
DOWN = 2
UP = 3

MOST_NAME_BYTES = 12
MOST_LEAF_BYTES = 200

# No byte of a text, so every test of a byte fails on it.
PAST_END = -1


def is_letter(byte):
    return LETTER_A <= byte <= LETTER_Z


def is_digit(byte):
    return DIGIT_0 <= byte <= DIGIT_9


class Scanner:
    """Goes through a text once, from its beginning to its end."""

    def __init__(self, text):
        self.text = text
        self.place = 0

    def byte(self):
        if self.place < len(self.text):
            return self.text[self.place]
        return PAST_END

    def skip_blanks(self):
        while self.byte() in (BLANK, LINE_FEED):
            self.place += 1

    def token(self):
        byte = self.byte()
        if byte == QUOTE:
            return (LEAF, self.leaf_text())
        if byte == LEFT_PAREN:
            self.place += 1
            return (DOWN, [])
        if byte == RIGHT_PAREN:
            self.place += 1
            return (UP, [])
        return (NAME, self.name())

    def name(self):
        start = self.place
        # A stretch that begins otherwise is no name, and any other byte begins no token at all.
        if not is_letter(self.byte()):
            raise NoHedge()
        while is_letter(self.byte()) or is_digit(self.byte()):
            self.place += 1
        if self.place - start > MOST_NAME_BYTES:
            raise NoHedge()
        return self.text[start:self.place]

    def leaf_text(self):
        word = []
        self.place += 1
        while self.byte() != QUOTE:
            word.append(self.leaf_byte())
        self.place += 1
        if len(word) < 1 or len(word) > MOST_LEAF_BYTES:
            raise NoHedge()
        return word

    def leaf_byte(self):
        byte = self.byte()
        self.place += 1
        if byte == BACKSLASH:
            byte = self.byte()
            self.place += 1
            if byte not in (QUOTE, BACKSLASH):
                raise NoHedge()
        if byte < BLANK or byte > LAST_PLAIN:
            raise NoHedge()
        return byte


def cut_tokens(text):
    tokens = []
    scanner = Scanner(text)
    scanner.skip_blanks()
    while scanner.byte() != PAST_END:
        tokens.append(scanner.token())
        scanner.skip_blanks()
    return tokens
