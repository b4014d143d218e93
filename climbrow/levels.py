"""The levels of the cards, and the row of two hands."""

from climbrow.cards import deck, side_order, wins
from climbrow.checks import check_hands, check_side_card
from climbrow.rings import taken_out
from climbrow.walks import heights


def side_levels(mine, theirs, side):
    """Return the levels of the side's cards, by index."""
    walk = heights(mine, theirs)
    # A card of theirs lies above the place of its level, a card of mine below it.
    step = 1 if side == "mine" else 0
    found = [0] * len(mine)
    for place, (whose, index) in enumerate(deck(mine, theirs)):
        if whose == side:
            found[index] = walk[place + step]
    return found


def level(mine, theirs, side, index):
    """Return the level of the card."""
    check_hands(mine, theirs)
    check_side_card(mine, theirs, side, index)
    return side_levels(mine, theirs, side)[index]


def row_of(mine, theirs):
    """Return the levels of one hand in ascending order."""
    return sorted(side_levels(mine, theirs, "mine"))


def level_order(mine, theirs, side):
    """Return the indexes of the side's cards by level, and those of one level in deck order."""
    levels = side_levels(mine, theirs, side)
    return sorted(side_order(mine, theirs, side), key=lambda index: levels[index])


def mates(mine, theirs):
    """Return the pairing in which partners have the same level."""
    pairing = [0] * len(mine)
    # Both sides have the same levels equally often, so the two lists agree entry by entry.
    for m, t in zip(level_order(mine, theirs, "mine"), level_order(mine, theirs, "theirs")):
        pairing[m] = t
    return pairing


def row_after(mine, theirs, m, t):
    """Return the row of the hands without the pair, with 1 added to each entry if the pair is won."""
    left_mine, left_theirs = taken_out(mine, theirs, m, t)
    won = int(wins(mine[m], theirs[t]))
    return [entry + won for entry in row_of(left_mine, left_theirs)]
