"""The plan by which a guide plays: one card for each lay, and one for each answer."""

from climbrow.cards import next_down, next_up, side_order
from climbrow.levels import side_levels
from climbrow.words import other_side


def planned_lay(mine, theirs, side, many):
    """Return the card of the side that it lays by the plan."""
    levels = side_levels(mine, theirs, side)
    wanted = min(levels) if side == many else max(levels)
    return [index for index in side_order(mine, theirs, side) if levels[index] == wanted][0]


def planned_answer(mine, theirs, laying, index, many):
    """Return the card of the other side that is the best answer to the laid card."""
    if many == "mine":
        return next_up(mine, theirs, laying, index)
    return next_down(mine, theirs, laying, index)


def lay_of_rest(cards, side, many):
    """Return the card of the side that it lays by the plan, where only some cards are left."""
    left_mine, left_theirs = cards.hands()
    return cards.left[side][planned_lay(left_mine, left_theirs, side, many)]


def answer_of_rest(cards, laying, index, many):
    """Return the best answer to the laid card, where only some cards are left."""
    left_mine, left_theirs = cards.hands()
    position = cards.position(laying, index)
    return cards.left[other_side(laying)][planned_answer(left_mine, left_theirs, laying, position, many)]
