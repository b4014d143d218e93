"""Pairings of two hands, their results, and exchanges."""

from climbrow.cards import side_order, wins
from climbrow.checks import check_card, check_hands, check_pairing, check_place


def marks(mine, theirs, pairing):
    """Return for each of my cards whether its pair is won."""
    check_hands(mine, theirs)
    check_pairing(pairing, len(mine))
    return [wins(mine[m], theirs[t]) for m, t in enumerate(pairing)]


def winners(mine, theirs, pairing):
    """Return the indexes of my cards whose pairs are won, in ascending order."""
    return [m for m, won in enumerate(marks(mine, theirs, pairing)) if won]


def result(mine, theirs, pairing):
    """Return the number of won pairs."""
    return len(winners(mine, theirs, pairing))


def rotation(mine, theirs, r):
    """Return the pairing of my card of each rank with their card whose rank is r steps further."""
    check_hands(mine, theirs)
    check_place(r, 0, len(mine))
    my_order = side_order(mine, theirs, "mine")
    their_order = side_order(mine, theirs, "theirs")
    pairing = [0] * len(mine)
    for m, t in zip(my_order, their_order[r:] + their_order[:r]):
        pairing[m] = t
    return pairing


def exchange(pairing, a, b):
    """Return the pairing in which my cards a and b have swapped their partners."""
    check_pairing(pairing, len(pairing))
    check_card("mine", pairing, a)
    check_card("mine", pairing, b)
    swapped = list(pairing)
    swapped[a], swapped[b] = pairing[b], pairing[a]
    return swapped


def exchanges_for(pairing, pairs):
    """Return the exchanges (m, other) that put the pairs in place, one after the other."""
    present = pairing
    found = []
    for m, t in pairs:
        if present[m] != t:
            other = present.index(t)
            found.append((m, other))
            present = exchange(present, m, other)
    return found


def way(first, second):
    """Return the exchanges (m, other) that lead from the first pairing to the second one."""
    check_pairing(first, len(first))
    check_pairing(second, len(first))
    return exchanges_for(first, list(enumerate(second)))


def distance(first, second):
    """Return the smallest number of exchanges that lead from one pairing to the other."""
    # Each exchange of the way makes one more cycle, until all cards keep their partners: no way is shorter.
    return len(way(first, second))
