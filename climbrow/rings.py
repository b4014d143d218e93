"""Turning the ring, arcs on it, and taking out a pair."""

from climbrow.cards import deck, ring_from
from climbrow.checks import check_hands, check_pair


def turn_once(mine, theirs):
    """Return the hands after one step of the ring, and the change of all results."""
    bottom = min(min(mine), min(theirs)) - 1
    side, index = deck(mine, theirs)[-1]
    if side == "mine":
        return mine[:index] + [bottom] + mine[index + 1:], theirs, -1
    return mine, theirs[:index] + [bottom] + theirs[index + 1:], 1


def turn(mine, theirs, *, steps=1):
    """Return the hands after the steps of the ring, and the sum of the changes of all results."""
    check_hands(mine, theirs)
    new_mine, new_theirs, change = list(mine), list(theirs), 0
    if not mine:
        return new_mine, new_theirs, change
    for _ in range(steps):
        new_mine, new_theirs, one_change = turn_once(new_mine, new_theirs)
        change = change + one_change
    return new_mine, new_theirs, change


def arc(mine, theirs, m, t):
    """Return the cards that one meets on the way up the ring from my card m to their card t."""
    check_hands(mine, theirs)
    check_pair(mine, theirs, m, t)
    met = ring_from(mine, theirs, "mine", m)
    return met[:met.index(("theirs", t))]


def taken_out(mine, theirs, m, t):
    """Return the hands without the pair."""
    check_hands(mine, theirs)
    check_pair(mine, theirs, m, t)
    return mine[:m] + mine[m + 1:], theirs[:t] + theirs[t + 1:]
