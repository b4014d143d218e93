"""The heights of the places of the deck."""

from climbrow.cards import deck
from climbrow.checks import check_hands, check_place
from climbrow.pairings import marks


def heights(mine, theirs):
    """Return for each place their cards below it minus my cards below it."""
    check_hands(mine, theirs)
    found = [0]
    for side, _ in deck(mine, theirs):
        found.append(found[-1] + (1 if side == "theirs" else -1))
    return found


def peak(mine, theirs):
    """Return the greatest height."""
    return max(heights(mine, theirs))


def valley(mine, theirs):
    """Return the least height."""
    return min(heights(mine, theirs))


def places_of_height(walk, height):
    """Return the places with the height, in ascending order."""
    return [place for place, found in enumerate(walk) if found == height]


def peak_places(mine, theirs):
    """Return the places with the greatest height, in ascending order."""
    walk = heights(mine, theirs)
    return places_of_height(walk, max(walk))


def valley_places(mine, theirs):
    """Return the places with the least height, in ascending order."""
    walk = heights(mine, theirs)
    return places_of_height(walk, min(walk))


def lying_across(mine, theirs, pairing, place):
    """Return for each of my cards whether exactly one card of its pair is below the place."""
    cards = deck(mine, theirs)
    below = {card: position < place for position, card in enumerate(cards)}
    return [below[("mine", m)] != below[("theirs", t)] for m, t in enumerate(pairing)]


def crossing(mine, theirs, pairing, place):
    """Return the number of won pairs and the number of lost pairs across the place."""
    won_marks = marks(mine, theirs, pairing)
    check_place(place, 0, 2 * len(mine))
    across = lying_across(mine, theirs, pairing, place)
    won = [m for m, mark in enumerate(won_marks) if mark and across[m]]
    lost = [m for m, mark in enumerate(won_marks) if not mark and across[m]]
    return len(won), len(lost)
