"""The reserve and the counter-reserve: pairs that assure a result one by one."""

from climbrow.checks import check_hands, check_pairing
from climbrow.pairings import exchanges_for, marks, rotation
from climbrow.spans import least, most
from climbrow.walks import lying_across, peak_places, valley_places


def reserved_pairs(mine, theirs, pairing, place):
    """Return the lost pairs of the pairing that lie across the place and the won pairs that do not."""
    won = marks(mine, theirs, pairing)
    across = lying_across(mine, theirs, pairing, place)
    return [(m, t) for m, t in enumerate(pairing) if won[m] != across[m]]


def reserve(mine, theirs):
    """Return the pairs each of which adds 1 to what a pairing has at least."""
    pairing = rotation(mine, theirs, most(mine, theirs))
    return reserved_pairs(mine, theirs, pairing, peak_places(mine, theirs)[0])


def counter_reserve(mine, theirs):
    """Return the pairs each of which takes 1 from what a pairing has at most."""
    pairing = rotation(mine, theirs, least(mine, theirs))
    won = marks(mine, theirs, pairing)
    across = lying_across(mine, theirs, pairing, valley_places(mine, theirs)[0])
    return [(m, t) for m, t in enumerate(pairing) if won[m] == across[m]]


def toward(mine, theirs, pairing, *, goal="most"):
    """Return the exchanges (m, other) that put the reserve, or the counter-reserve, in place."""
    check_hands(mine, theirs)
    check_pairing(pairing, len(mine))
    pairs = reserve(mine, theirs) if goal == "most" else counter_reserve(mine, theirs)
    return exchanges_for(pairing, pairs)
