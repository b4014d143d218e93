"""Picks: the value of a play at several tables in which one side chooses the table of each round."""

from climbrow.rows import struck_once
from climbrow.words import check_word, laying_side, other_side


def picking_side(letter, picker):
    """Return the side that chooses the table of the round with that letter."""
    return laying_side(letter) if picker == "layer" else other_side(laying_side(letter))


def worth_of_choice(rows, word, index, picker, many, known):
    """Return the value of the choice of the row with that index."""
    row = rows[index]
    left = rows[:index] + [struck_once(row, word[0], many)] + rows[index + 1:]
    won = row[0] + 1 if len(row) == 1 else 0
    return won + best_worth(left, word[1:], picker, many, known)


def choices(rows, word, picker, many, known):
    """Return the values of all choices, as tuples of the index of the row and the value."""
    return [(index, worth_of_choice(rows, word, index, picker, many, known)) for index, row in enumerate(rows) if row]


def best_worth(rows, word, picker, many, known):
    """Return the value of the rows under the word; the dict keeps the values that were found before."""
    if not word:
        return 0
    key = tuple([tuple(row) for row in rows])
    if key not in known:
        found = [worth for _, worth in choices(rows, word, picker, many, known)]
        known[key] = max(found) if picking_side(word[0], picker) == many else min(found)
    return known[key]


def check_rounds(rows, word):
    """Raise BadWord unless the word has as many letters as all rows together have entries."""
    check_word(word, sum([len(row) for row in rows]))


def picked_value(rows, word, *, picker="layer", many="mine"):
    """Return the result that both sides can hold to in the play with picks."""
    check_rounds(rows, word)
    return best_worth(rows, word, picker, many, {})


def best_picks(rows, word, *, picker="layer", many="mine"):
    """Return the indexes of the rows whose choice has the value of the play."""
    check_rounds(rows, word)
    known = {}
    best = best_worth(rows, word, picker, many, known)
    return [index for index, worth in choices(rows, word, picker, many, known) if worth == best]
