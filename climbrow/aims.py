"""What a steward aims at: the pairing that is best for its side, and how to get there."""

from climbrow.pairings import exchange, exchanges_for
from climbrow.reserves import counter_reserve, reserve
from climbrow.spans import pairing_with, span_of


def reserve_for(side, cards):
    """Return the pairs of the cards that are left each of which brings the side nearer to its goal."""
    mine, theirs = cards.hands()
    return cards.named(reserve(mine, theirs) if side == "mine" else counter_reserve(mine, theirs))


class Aim:
    """What a steward keeps in mind from the beginning of the middle part on.

    The goal is the most for mine, and the least for theirs. Each pairing that has all reserved pairs has it.
    """

    def __init__(self, side, season):
        mine, theirs = season.cards.hands()
        span = span_of(mine, theirs)
        pairing = pairing_with(mine, theirs, span.most if side == "mine" else span.least)
        planned = season.cards.named(list(enumerate(pairing)))
        won = season.won_count()
        self.lo = span.least + won
        self.hi = span.most + won
        self.reserved = reserve_for(side, season.cards)
        self.pairing = [t for _, t in sorted(season.bound + planned)]

    def follow(self, made):
        """Make the pairing in mind agree with the pairs that were made."""
        steps = exchanges_for(self.pairing, made)
        for a, b in steps:
            self.pairing = exchange(self.pairing, a, b)

    def way(self):
        """Return the exchanges that lead the pairing in mind to one with the goal."""
        # No list of exchanges that puts all reserved pairs in place is shorter: each exchange of this one makes one
        # more cycle of cards of mine that take each other's places. So an exchange of the other side makes the way
        # longer by one exchange at most, and its own first exchange makes it shorter by one.
        return exchanges_for(self.pairing, self.reserved)
