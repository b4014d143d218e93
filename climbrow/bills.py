"""Bills: what each pair of a course does to the span of results, and what each deed of it gives away."""

from climbrow.cards import as_pair
from climbrow.checks import check_hands
from climbrow.moves import value_of_answer, value_of_lay
from climbrow.remains import Remains
from climbrow.rows import value_of
from climbrow.spans import rise_and_fall
from climbrow.words import check_word, laying_side


def made_in_turn(mine, theirs, course):
    """Return for each pair of the course the hands that are left before it, and its two positions in them."""
    cards = Remains(mine, theirs)
    found = []
    for m, t in course:
        cards.check_pair(m, t)
        left_mine, left_theirs = cards.hands()
        found.append((left_mine, left_theirs, cards.position("mine", m), cards.position("theirs", t)))
        cards.drop_pair(m, t)
    return found


def rises_and_falls(mine, theirs, course):
    """Return the rise and the fall of each pair of the course, in the hands that are left at that moment."""
    check_hands(mine, theirs)
    return [rise_and_fall(left_mine, left_theirs, m, t)
            for left_mine, left_theirs, m, t in made_in_turn(mine, theirs, course)]


def slips_of_round(mine, theirs, word, m, t, many):
    """Return the slip of the lay and the slip of the answer by which the pair is made in the first round."""
    laid, answer = as_pair(laying_side(word[0]), m, t)
    before = value_of(mine, theirs, word, many=many)
    once_laid = value_of_lay(mine, theirs, word, laid, many)
    once_made = value_of_answer(mine, theirs, word, laid, answer, many)
    return abs(before - once_laid), abs(once_laid - once_made)


def slips(mine, theirs, word, course, *, many="mine"):
    """Return for each round of the course the slip of the lay and the slip of the answer."""
    check_hands(mine, theirs)
    check_word(word, len(mine))
    found = []
    for played, (left_mine, left_theirs, m, t) in enumerate(made_in_turn(mine, theirs, course)):
        found.append(slips_of_round(left_mine, left_theirs, word[played:], m, t, many))
    return found
