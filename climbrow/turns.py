"""What the letters of a word are worth, and results that can be brought about exactly."""

from climbrow.checks import check_place
from climbrow.errors import Unreachable, Unsteady
from climbrow.rows import all_values, span_of_row, value
from climbrow.words import check_letters, check_word


def turn_worth(row, word, index, *, many="mine"):
    """Return the value with the letter T at the index minus the value with the letter M there."""
    check_word(word, len(row))
    check_place(index, 0, len(word) - 1)
    before, after = word[:index], word[index + 1:]
    return value(row, before + "T" + after, many=many) - value(row, before + "M" + after, many=many)


def turns_needed(row, wanted):
    """Return the fewest lays of theirs, before the last round, for which the value is at least the wanted result."""
    span = span_of_row(row)
    if wanted > span.most:
        raise Unreachable(wanted, span.least, span.most)
    return [found >= wanted for found in all_values(row)].index(True)


def last_lay_worth(row, lays):
    """Return the value if mine lays in the last round minus the value if theirs does, for the same number of lays."""
    check_place(lays, 1, len(row) - 1)
    by_lays_of_theirs = all_values(row)
    # The last round does not count: if theirs lays in it, one lay of theirs less is left for the others.
    return by_lays_of_theirs[len(row) - lays] - by_lays_of_theirs[len(row) - lays - 1]


def exact_range(row, word):
    """Return the values of the row if theirs wishes for many, and if mine does."""
    return value(row, word, many="theirs"), value(row, word, many="mine")


def unsteady_position(word):
    """Return the greatest index at which an end part with more letters M than T begins, or None."""
    lead = 0
    for position in reversed(range(len(word) - 1)):
        lead = lead + (1 if word[position] == "M" else -1)
        if lead > 0:
            return position
    return None


def is_steady(word):
    """Return True if no end part of the word without its last letter has more letters M than T."""
    check_letters(word)
    return unsteady_position(word) is None


def can_force(row, word, wanted):
    """Return True if mine can bring about exactly the wanted result."""
    low, high = exact_range(row, word)
    position = unsteady_position(word)
    if position is not None:
        raise Unsteady(position)
    return low <= wanted <= high
