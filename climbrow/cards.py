"""Cards, the deck of two hands, and the ring. The hands may have different lengths."""

from climbrow.checks import check_side_card
from climbrow.errors import BadHands


def wins(my_number, their_number):
    """Return True if a pair of these numbers is won."""
    return my_number >= their_number


def as_pair(side, own, other):
    """Return the pair of a card of the side and a card of the other side."""
    return (own, other) if side == "mine" else (other, own)


def deck(mine, theirs):
    """Return all cards of both hands in ascending order, as tuples (side, index)."""
    # The middle entry settles equal numbers: all cards of theirs (0) stand before all cards of mine (1).
    keys = [(number, 0, index) for index, number in enumerate(theirs)]
    keys = keys + [(number, 1, index) for index, number in enumerate(mine)]
    return [("mine" if mark == 1 else "theirs", index) for _, mark, index in sorted(keys)]


def side_order(mine, theirs, side):
    """Return the indexes of the side's cards in deck order."""
    return [index for whose, index in deck(mine, theirs) if whose == side]


def place_of(mine, theirs, side, index):
    """Return the number of cards that stand before the card in the deck."""
    check_side_card(mine, theirs, side, index)
    return deck(mine, theirs).index((side, index))


def rank_of(mine, theirs, side, index):
    """Return the number of cards of the card's own side that stand before it in the deck."""
    check_side_card(mine, theirs, side, index)
    return side_order(mine, theirs, side).index(index)


def ring_from(mine, theirs, side, index):
    """Return all other cards in the order in which they are met, going up the ring from the card."""
    place = place_of(mine, theirs, side, index)
    cards = deck(mine, theirs)
    return cards[place + 1:] + cards[:place]


def around(mine, theirs, side, index, *, down=False):
    """Return the cards of the other side in the order in which they are met, going up or down the ring."""
    others = [met for whose, met in ring_from(mine, theirs, side, index) if whose != side]
    return others[::-1] if down else others


def first_met(mine, theirs, side, index, down):
    """Return the first card of the other side, going up or down from the card."""
    others = around(mine, theirs, side, index, down=down)
    if not others:
        raise BadHands(len(mine), len(theirs))
    return others[0]


def next_up(mine, theirs, side, index):
    """Return the first card of the other side, going up the ring from the card."""
    return first_met(mine, theirs, side, index, False)


def next_down(mine, theirs, side, index):
    """Return the first card of the other side, going down the ring from the card."""
    return first_met(mine, theirs, side, index, True)
