"""Rows, striking them by letters, and the value of a duel.

The functions also take lists that were struck or counted in, which need not be rows of hands.
"""

from climbrow.levels import row_of
from climbrow.spans import Span
from climbrow.words import check_word, check_word_within, laying_side


def is_row(levels):
    """Return True if the list is the row of some hands."""
    if not levels:
        return True
    steps = [upper - lower for lower, upper in zip(levels, levels[1:])]
    return all([step in (0, 1) for step in steps]) and levels[0] <= 0 and levels[-1] >= -1


def blocks(row):
    """Return the numbers of equal entries, from the lowest entry to the highest."""
    return [row.count(entry) for entry in sorted(set(row))]


def span_of_row(row):
    """Return the span of the hands that have the row."""
    if not row:
        return Span(0, 0)
    return Span(row[-1] + 1, len(row) + row[0])


def struck_once(row, letter, many):
    """Return the row struck by one letter."""
    if laying_side(letter) == many:
        return row[1:]
    return [entry + 1 for entry in row[:-1]]


def struck(row, word, *, many="mine"):
    """Return the row struck by the letters of the word, one after the other."""
    check_word_within(word, len(row))
    left = list(row)
    for letter in word:
        left = struck_once(left, letter, many)
    return left


def value(row, word, *, many="mine"):
    """Return the result that both sides can hold to under the word."""
    check_word(word, len(row))
    if not row:
        return 0
    return struck(row, word[:-1], many=many)[0] + 1


def value_of(mine, theirs, word, *, many="mine"):
    """Return the value of the row of the hands."""
    return value(row_of(mine, theirs), word, many=many)


def all_values(row):
    """Return the values of the row by the number of lays of the side that does not wish for many."""
    if not row:
        return [0]
    return [lays + 1 + entry for lays, entry in enumerate(row[::-1])]
