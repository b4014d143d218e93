"""What a steward aims at: the pairing that is best for its side, and how to get there."""

from climbrow.pairings import exchange, exchanges_for
from climbrow.reserves import counter_reserve, reserve
from climbrow.spans import pairing_with, span_of


def reserve_for(side, cards):
    """Return the pairs of the cards that are left each of which brings the side nearer to its goal."""
    mine, theirs = cards.hands()
    return cards.named(reserve(mine, theirs) if side == "mine" else counter_reserve(mine, theirs))


class Aim:
    """What a steward keeps in mind from the beginning of the middle part on.

    The goal is the most for mine, and the least for theirs. The way is a list of exchanges that lead the pairing
    in mind to one with the goal; it is never longer than the most minus the least.
    """

    def __init__(self, side, season):
        mine, theirs = season.cards.hands()
        span = span_of(mine, theirs)
        pairing = pairing_with(mine, theirs, span.most if side == "mine" else span.least)
        planned = season.cards.named(list(enumerate(pairing)))
        won = season.won_count()
        self.lo = span.least + won
        self.hi = span.most + won
        self.reserved = reserve_for(side, season.cards)
        self.pairing = [t for _, t in sorted(season.bound + planned)]
        self.way = []

    def follow(self, made):
        """Make the pairing in mind agree with the pairs that were made."""
        for m, t in made:
            if self.pairing[m] != t:
                self._swap(m, self.pairing.index(t))

    def _swap(self, a, b):
        """Swap the partners of two cards of mine in the pairing in mind, and keep the way to the goal."""
        self.pairing = exchange(self.pairing, a, b)
        if self.way and sorted(self.way[0]) == sorted([a, b]):
            back = self.way[1:]
        else:
            # The same exchange made once more takes it back.
            back = [(a, b)] + self.way
        self.way = min(back, exchanges_for(self.pairing, self.reserved), key=len)
