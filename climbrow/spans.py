"""The span of results of two hands, and what a pair that is taken out does to it."""

from climbrow.cards import wins
from climbrow.errors import Unreachable
from climbrow.pairings import rotation
from climbrow.rings import taken_out
from climbrow.walks import peak, valley


class Span:
    """A least and a most result."""

    def __init__(self, least, most):
        self.least = least
        self.most = most

    @property
    def width(self):
        """The most minus the least."""
        return self.most - self.least

    def __add__(self, other):
        return Span(self.least + other.least, self.most + other.most)

    def __contains__(self, number):
        return self.least <= number <= self.most


def least(mine, theirs):
    """Return the smallest result of any pairing."""
    return peak(mine, theirs)


def most(mine, theirs):
    """Return the greatest result of any pairing."""
    return len(mine) + valley(mine, theirs)


def span_of(mine, theirs):
    """Return the span of the results of all pairings."""
    return Span(least(mine, theirs), most(mine, theirs))


def pairing_with(mine, theirs, wanted):
    """Return the rotation that has the wanted result."""
    span = span_of(mine, theirs)
    if wanted not in span:
        raise Unreachable(wanted, span.least, span.most)
    return rotation(mine, theirs, wanted)


def rise_and_fall(mine, theirs, m, t):
    """Return by how much the least rises and the most falls when the pair is made."""
    left_mine, left_theirs = taken_out(mine, theirs, m, t)
    won = int(wins(mine[m], theirs[t]))
    rise = least(left_mine, left_theirs) + won - least(mine, theirs)
    fall = most(mine, theirs) - most(left_mine, left_theirs) - won
    return rise, fall
