"""The checks that many functions make first."""

from climbrow.errors import BadCard, BadHands, BadPairing, BadPlace, OutOfTurn


def check_hands(mine, theirs):
    """Raise BadHands if the hands have different lengths."""
    if len(mine) != len(theirs):
        raise BadHands(len(mine), len(theirs))


def check_card(side, hand, index):
    """Raise BadCard if the side's hand has no card with that index."""
    if not 0 <= index < len(hand):
        raise BadCard(side, index)


def check_side_card(mine, theirs, side, index):
    """Raise BadCard if the side has no card with that index."""
    check_card(side, mine if side == "mine" else theirs, index)


def check_pair(mine, theirs, m, t):
    """Raise BadCard for the first card of the pair that does not exist."""
    check_card("mine", mine, m)
    check_card("theirs", theirs, t)


def check_pairing(pairing, n):
    """Raise BadPairing if the list is not a pairing of n cards."""
    seen = set()
    for index, partner in enumerate(pairing):
        if not 0 <= partner < n or partner in seen:
            raise BadPairing(index)
        seen.add(partner)
    # A list that is longer than n has raised above: n + 1 entries cannot all be different and in range.
    if len(pairing) < n:
        raise BadPairing(len(pairing))


def check_place(place, lowest, highest):
    """Raise BadPlace if the place is not from the lowest to the highest."""
    if not lowest <= place <= highest:
        raise BadPlace(place)


def acting_side(due, deed):
    """Return the side that must act; raise OutOfTurn if another deed is due, or none."""
    if due is None or due[1] != deed:
        raise OutOfTurn()
    return due[0]
