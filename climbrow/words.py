"""Letters, words, and the checks of words."""

from climbrow.errors import BadWord


def laying_side(letter):
    """Return the side that the letter names."""
    return "mine" if letter == "M" else "theirs"


def other_side(side):
    """Return the side that the given one plays against."""
    return "theirs" if side == "mine" else "mine"


def check_letters(word):
    """Raise BadWord if the word has a wrong letter."""
    for position, letter in enumerate(word):
        if letter not in ("M", "T"):
            raise BadWord(position)


def check_word(word, length):
    """Raise BadWord unless the word has good letters only, and as many as the length."""
    check_letters(word)
    if len(word) != length:
        raise BadWord(min(len(word), length))


def check_word_within(word, limit):
    """Raise BadWord unless the word has good letters only, and not more than the limit."""
    check_letters(word)
    if len(word) > limit:
        raise BadWord(limit)
