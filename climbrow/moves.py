"""What each lay and each answer is worth."""

from climbrow.cards import around, as_pair, wins
from climbrow.checks import check_hands, check_side_card
from climbrow.levels import row_after
from climbrow.plans import planned_answer
from climbrow.rings import taken_out
from climbrow.rows import value_of
from climbrow.words import check_word, laying_side, other_side


def chain(mine, theirs, side, index):
    """Return the answers to the laid card, going up the ring, each with the row that it leaves, counted in."""
    check_hands(mine, theirs)
    found = []
    for answer in around(mine, theirs, side, index):
        m, t = as_pair(side, index, answer)
        found.append((answer, row_after(mine, theirs, m, t)))
    return found


def side_to_lay(word):
    """Return the side that lays now."""
    # Empty hands have no letter; a card that is asked for then counts as one of mine.
    return laying_side(word[0]) if word else "mine"


def value_of_answer(mine, theirs, word, index, answer, many):
    """Return the result to which both sides can hold once the answer to the laid card is made."""
    m, t = as_pair(side_to_lay(word), index, answer)
    left_mine, left_theirs = taken_out(mine, theirs, m, t)
    return int(wins(mine[m], theirs[t])) + value_of(left_mine, left_theirs, word[1:], many=many)


def value_of_lay(mine, theirs, word, index, many):
    """Return the result to which both sides can hold once the card is laid."""
    answer = planned_answer(mine, theirs, side_to_lay(word), index, many)
    return value_of_answer(mine, theirs, word, index, answer, many)


def lay_values(mine, theirs, word, *, many="mine"):
    """Return the value of each lay, by the index of the card."""
    check_hands(mine, theirs)
    check_word(word, len(mine))
    return [value_of_lay(mine, theirs, word, index, many) for index in range(len(mine))]


def answer_values(mine, theirs, word, index, *, many="mine"):
    """Return the value of each answer to the laid card, by the index of the answer."""
    check_hands(mine, theirs)
    check_word(word, len(mine))
    check_side_card(mine, theirs, side_to_lay(word), index)
    return [value_of_answer(mine, theirs, word, index, answer, many) for answer in range(len(mine))]


def best_indexes(values, side, many):
    """Return the indexes of the values that are best for the side."""
    if not values:
        return []
    best = max(values) if side == many else min(values)
    return [index for index, found in enumerate(values) if found == best]


def best_lays(mine, theirs, word, *, many="mine"):
    """Return the cards that are best to lay."""
    return best_indexes(lay_values(mine, theirs, word, many=many), side_to_lay(word), many)


def best_answers(mine, theirs, word, index, *, many="mine"):
    """Return the cards that are best to answer the laid card."""
    values = answer_values(mine, theirs, word, index, many=many)
    return best_indexes(values, other_side(side_to_lay(word)), many)
