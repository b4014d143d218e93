"""Tellings: what is told of a pairing, and what that demands and leaves room for at each place."""

from climbrow.cards import deck
from climbrow.checks import check_hands
from climbrow.errors import BadCard, Contradiction, Unreachable
from climbrow.remains import Remains

# The reasons for which no pairing agrees with a telling at a place, in the order in which they are named.
REASONS = ("winners", "height")


def told_cards(pairs, won, lost):
    """Return all cards that a telling names, in the order in which they are checked."""
    found = []
    for m, t in pairs:
        found.append(("mine", m))
        found.append(("theirs", t))
    return found + [("mine", m) for m in won] + [("mine", m) for m in lost]


def check_told(n, cards):
    """Raise BadCard for the first card that does not exist or occurs a second time."""
    seen = set()
    for side, index in cards:
        if not 0 <= index < n or (side, index) in seen:
            raise BadCard(side, index)
        seen.add((side, index))


def check_wanted(wanted, lowest, highest):
    """Raise Unreachable if the wanted result is not from the lowest to the highest."""
    if not lowest <= wanted <= highest:
        raise Unreachable(wanted, lowest, highest)


def paired_up(order, winning):
    """Return pairs of the cards of a deck in which the winning cards of mine win, and the others lose if they can."""
    free, losing, pairs = [], [], []
    for side, index in order:
        if side == "theirs":
            free.append(index)
        elif index in winning:
            # The lowest free card leaves the others, which are harder to beat, to the later winners.
            pairs.append((index, free.pop(0)))
        else:
            losing.append(index)
    return pairs + list(zip(losing, free))


def named_deck(cards):
    """Return the deck of the cards that are left, named by their indexes in the whole hands."""
    left_mine, left_theirs = cards.hands()
    return [(side, cards.left[side][position]) for side, position in deck(left_mine, left_theirs)]


def marked(order, won, lost):
    """Return for each card of the deck "theirs", or "won", "lost" or "open" for a card of mine."""
    told = {}
    for m in won:
        told[m] = "won"
    for m in lost:
        told[m] = "lost"
    return ["theirs" if side == "theirs" else told.get(index, "open") for side, index in order]


class Telling:
    """A telling of two hands. Its places are those of the hands that are left without the told pairs."""

    def __init__(self, mine, theirs, pairs, won, lost):
        check_hands(mine, theirs)
        check_told(len(mine), told_cards(pairs, won, lost))
        cards = Remains(mine, theirs)
        for m, t in pairs:
            cards.drop_pair(m, t)
        self._count = len(mine)
        self._pairs = [(m, t) for m, t in pairs]
        self._won = list(won)
        self._order = named_deck(cards)
        self._marks = marked(self._order, won, lost)
        self.open_cards = [card[1] for card, mark in zip(self._order, self._marks) if mark == "open"]
        # The number of winners that are told: those of the pairs, and the won cards.
        self.sure = sum([cards.gain(m, t) for m, t in pairs]) + len(won)

    def has_place(self, place):
        """Return True if the place exists."""
        return 0 <= place <= len(self._order)

    def demand(self, place):
        """Return the number of open winners that the place demands at least."""
        below, above = self._marks[:place], self._marks[place:]
        height = 2 * below.count("theirs") - len(below)
        return height - above.count("won")

    def room(self, place):
        """Return the number of open winners that the place leaves room for at most."""
        below, above = self._marks[:place], self._marks[place:]
        return above.count("open") + below.count("theirs") - below.count("won")

    def breaks(self, reason, place):
        """Return True if the reason, "winners" or "height", forbids all pairings at the place."""
        below, above = self._marks[:place], self._marks[place:]
        if reason == "winners":
            return below.count("won") > below.count("theirs")
        return self.demand(place) > above.count("open")

    def breaking_places(self, reason):
        """Return the places at which the reason forbids all pairings, in ascending order."""
        return [place for place in range(len(self._order) + 1) if self.breaks(reason, place)]

    def breaking_place(self):
        """Return the lowest place at which some reason forbids all pairings, or None."""
        return min([place for reason in REASONS for place in self.breaking_places(reason)], default=None)

    def demands(self):
        """Return the demands of all places."""
        return [self.demand(place) for place in range(len(self._order) + 1)]

    def rooms(self):
        """Return the rooms of all places."""
        return [self.room(place) for place in range(len(self._order) + 1)]

    def agrees(self):
        """Return True if some pairing agrees with the telling."""
        return self.breaking_place() is None

    def results(self):
        """Return the smallest and the greatest result of all pairings that agree with the telling."""
        if not self.agrees():
            raise Contradiction()
        return self.sure + max(self.demands()), self.sure + min(self.rooms())

    def pairing(self, wanted):
        """Return a pairing that agrees with the telling and has the wanted result."""
        lowest, highest = self.results()
        check_wanted(wanted, lowest, highest)
        losing = self.sure + len(self.open_cards) - wanted
        # Of the open cards, the last ones of the deck win.
        winning = self._won + self.open_cards[losing:]
        found = [0] * self._count
        for m, t in self._pairs + paired_up(self._order, winning):
            found[m] = t
        return found
