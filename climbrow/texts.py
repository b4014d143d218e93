"""The texts of the deeds of a desk."""

from climbrow.errors import BadText

DEEDS = ("open", "call", "lay", "answer", "draw", "close")
SMALL_LETTERS = "abcdefghijklmnopqrstuvwxyz"
DIGITS = "0123456789"
# The limits of what a text may say.
LONGEST_NAME = 12
LONGEST_WORD = 40
LARGEST_HAND = 40
GREATEST_NUMBER = 10 ** 15
GREATEST_INDEX = 99


def is_deed(token):
    """Return True if the token names a deed."""
    return token in DEEDS


def is_name(token):
    """Return True if the token is a name."""
    return 1 <= len(token) <= LONGEST_NAME and all([letter in SMALL_LETTERS for letter in token])


def is_letter(token):
    """Return True if the token is a letter."""
    return token in ("M", "T")


def is_nothing(token):
    """Return True if the token stands for an empty word or an empty hand."""
    return token == "-"


def is_word(token):
    """Return True if the token is a word."""
    letters = 1 <= len(token) <= LONGEST_WORD and all([is_letter(letter) for letter in token])
    return letters or is_nothing(token)


def is_digits(token, greatest):
    """Return True if the token is a number from 0 to the greatest one, without leading zeros."""
    # The length is looked at first: a very long row of digits is never turned into a number.
    if not 1 <= len(token) <= len(str(greatest)) or not all([digit in DIGITS for digit in token]):
        return False
    return str(int(token)) == token and int(token) <= greatest


def is_number(token):
    """Return True if the token is a number, which may be negative."""
    if token.startswith("-"):
        return token != "-0" and is_digits(token[1:], GREATEST_NUMBER)
    return is_digits(token, GREATEST_NUMBER)


def is_index(token):
    """Return True if the token is an index."""
    return is_digits(token, GREATEST_INDEX)


def begins_hand(token):
    """Return True if a hand may begin with the token."""
    return is_nothing(token) or is_number(token)


def is_bar(token):
    """Return True if the token is the one between two hands."""
    return token == "|"


class Reader:
    """Reads the tokens of a text one after the other."""

    def __init__(self, text):
        self.tokens = text.split(" ")
        self.position = 0

    def next_is(self, fits):
        """Return True if there is a next token, and it fits."""
        return self.position < len(self.tokens) and fits(self.tokens[self.position])

    def take(self, fits):
        """Return the next token; raise BadText if there is none, or if it does not fit."""
        if not self.next_is(fits):
            raise BadText(self.position)
        self.position = self.position + 1
        return self.tokens[self.position - 1]

    def take_hand(self):
        """Return the hand that begins with the next token."""
        first = self.take(begins_hand)
        if is_nothing(first):
            return []
        hand = [int(first)]
        while len(hand) < LARGEST_HAND and self.next_is(is_number):
            hand.append(int(self.take(is_number)))
        return hand

    def finish(self):
        """Raise BadText if a token is left."""
        if self.position < len(self.tokens):
            raise BadText(self.position)


def parse_opening(reader):
    """Return the word and the two hands of a deed that opens a duel."""
    token = reader.take(is_word)
    word = "" if is_nothing(token) else token
    mine = reader.take_hand()
    reader.take(is_bar)
    return word, mine, reader.take_hand()


def parse_rest(reader, deed):
    """Return what stands behind the name in the deed."""
    if deed == "open":
        return parse_opening(reader)
    if deed == "call":
        return (reader.take(is_letter),)
    if deed == "draw":
        my_number = int(reader.take(is_number))
        return my_number, int(reader.take(is_number))
    if deed == "close":
        return ()
    return (int(reader.take(is_index)),)


def parse_deed(text):
    """Return the deed whose text is passed."""
    reader = Reader(text)
    deed = reader.take(is_deed)
    name = reader.take(is_name)
    rest = parse_rest(reader, deed)
    reader.finish()
    return (deed, name) + rest


def text_of(parts):
    """Return the parts with one space between them, or the sign for nothing if there are none."""
    return " ".join([str(part) for part in parts]) if parts else "-"


def format_deed(deed):
    """Return the text of the deed."""
    if deed[0] != "open":
        return text_of(deed)
    _, name, word, mine, theirs = deed
    return text_of(["open", name, word or "-", text_of(mine), "|", text_of(theirs)])
