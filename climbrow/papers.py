"""Papers: tuples that show an answer, so that a looker can check it."""

from climbrow.levels import mates, row_of
from climbrow.pairings import rotation
from climbrow.reserves import reserve
from climbrow.rows import value_of
from climbrow.spans import least, most
from climbrow.tellings import REASONS, Telling
from climbrow.told import winners_telling
from climbrow.walks import peak_places, valley_places


def span_paper(mine, theirs):
    """Return the paper that shows the least and the most result."""
    lowest, highest = least(mine, theirs), most(mine, theirs)
    low_place, high_place = peak_places(mine, theirs)[0], valley_places(mine, theirs)[0]
    low_pairing, high_pairing = rotation(mine, theirs, lowest), rotation(mine, theirs, highest)
    return "span", lowest, low_place, low_pairing, highest, high_place, high_pairing


def row_paper(mine, theirs):
    """Return the paper that shows the row."""
    return "row", row_of(mine, theirs), mates(mine, theirs)


def value_paper(mine, theirs, word, *, many="mine"):
    """Return the paper that shows the value under the word."""
    shown = value_of(mine, theirs, word, many=many)
    return "value", word, many, shown, row_of(mine, theirs), mates(mine, theirs)


def winners_paper(mine, theirs, cards):
    """Return the paper that shows whether the cards are a possible set of winners."""
    telling = winners_telling(mine, theirs, cards)
    place = telling.breaking_place()
    if place is None:
        return "winners", sorted(cards), telling.pairing(len(cards))
    return "no winners", sorted(cards), place


def reserve_paper(mine, theirs):
    """Return the paper that shows the reserve."""
    pairing = rotation(mine, theirs, most(mine, theirs))
    return "reserve", reserve(mine, theirs), peak_places(mine, theirs)[0], pairing


def telling_paper(mine, theirs, *, pairs=(), won=(), lost=()):
    """Return the paper that shows the results that agree with the telling, or why there are none."""
    telling = Telling(mine, theirs, pairs, won, lost)
    for reason in REASONS:
        places = telling.breaking_places(reason)
        if places:
            return "contradiction", reason, places[0]
    lowest, highest = telling.results()
    low_place = telling.demands().index(lowest - telling.sure)
    high_place = telling.rooms().index(highest - telling.sure)
    return "agrees", lowest, low_place, telling.pairing(lowest), highest, high_place, telling.pairing(highest)
