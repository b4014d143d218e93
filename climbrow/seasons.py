"""Seasons: what both sides can hold to in a season, and the referee of one season."""

from climbrow.cards import as_pair
from climbrow.checks import acting_side, check_hands
from climbrow.errors import BadCard, OutOfTurn
from climbrow.remains import Remains
from climbrow.words import check_letters, laying_side, other_side


def before_run(lo, hi, before):
    """Return the least and the most at the beginning, and after each letter of the part before."""
    run = [(lo, hi)]
    for letter in before:
        if lo < hi:
            lo, hi = (lo + 1, hi) if letter == "M" else (lo, hi - 1)
        run.append((lo, hi))
    return run


def middle_value(lo, hi, takebacks, layer):
    """Return what both sides can hold to at the end of the middle part."""
    if layer == "mine":
        return min(hi, lo + takebacks)
    return max(lo, hi - takebacks)


def after_run(lo, hi, start, after):
    """Return what both sides can hold to before the first letter of the part after, and after each letter."""
    run = [start]
    for letter in after:
        run.append(min(hi, run[-1] + 1) if letter == "M" else max(lo, run[-1] - 1))
    return run


def season_run(span, before, takebacks, after, *, layer="mine"):
    """Return the pairs (lo, hi) of the part before, and the values of the part after."""
    check_letters(before)
    check_letters(after)
    bounds = before_run(span.least, span.most, before)
    lo, hi = bounds[-1]
    return bounds, after_run(lo, hi, middle_value(lo, hi, takebacks, layer), after)


def season_value(span, before, takebacks, after, *, layer="mine"):
    """Return the result that both sides can hold to in the season."""
    _, values = season_run(span, before, takebacks, after, layer=layer)
    return values[-1]


class Season:
    """One season: its cards, the pairs that are bound or made, and the turns that are still to come.

    `cards` holds the cards that stand in a hand, `before_left` and `after_left` the letters whose turns are still to
    come, `laid` and `answered` the indexes of the open cards, or None.
    """

    def __init__(self, mine, theirs, before, takebacks, after, *, layer="mine"):
        check_hands(mine, theirs)
        check_letters(before)
        check_letters(after)
        self.layer = layer
        self.bound = []
        self.made = []
        self.takebacks_left = takebacks
        self.before_left = before
        self.after_left = after
        self.cards = Remains(mine, theirs)
        self.laid = None
        self.answered = None

    @property
    def part(self):
        """The part in which the season is: "before", "middle", "after" or "over"."""
        if self.before_left:
            return "before"
        if self.cards.left["mine"] or self.laid is not None:
            return "middle"
        return "after" if self.after_left else "over"

    @property
    def due(self):
        """The side that must act and what it must do, or None if the season is over."""
        if self.part == "before":
            return laying_side(self.before_left[0]), "bind"
        if self.part == "after":
            return laying_side(self.after_left[0]), "exchange"
        if self.part == "over":
            return None
        if self.laid is None:
            return self.layer, "lay"
        if self.answered is None:
            return other_side(self.layer), "answer"
        return self.layer, "keep"

    def bind(self, m, t):
        """Bind a card of mine to a card of theirs."""
        acting_side(self.due, "bind")
        self.cards.check_pair(m, t)
        self.cards.drop_pair(m, t)
        self.bound = sorted(self.bound + [(m, t)])
        self.before_left = self.before_left[1:]

    def pass_turn(self):
        """Let a turn of the part before or of the part after go by."""
        if self.part == "before":
            self.before_left = self.before_left[1:]
        elif self.part == "after":
            self.after_left = self.after_left[1:]
        else:
            raise OutOfTurn()

    def lay(self, index):
        """Lay a card of the layer."""
        side = acting_side(self.due, "lay")
        self.cards.check(side, index)
        self.cards.drop(side, index)
        self.laid = index

    def answer(self, index):
        """Answer the laid card with a card of the other side."""
        side = acting_side(self.due, "answer")
        self.cards.check(side, index)
        self.cards.drop(side, index)
        self.answered = index

    def keep(self):
        """Make the pair of the two open cards."""
        side = acting_side(self.due, "keep")
        self.made = sorted(self.made + [as_pair(side, self.laid, self.answered)])
        self.laid = None
        self.answered = None

    def take_back(self, index):
        """Take the laid card back, and make the pair of another card of the layer and the same answer."""
        side = acting_side(self.due, "keep")
        if self.takebacks_left < 1:
            raise OutOfTurn()
        self.cards.check(side, index)
        self.cards.drop(side, index)
        self.cards.put_back(side, self.laid)
        self.takebacks_left = self.takebacks_left - 1
        self.laid = index
        self.keep()

    def exchange(self, a, b):
        """Swap the partners of two cards of mine whose pairs were made in the middle part."""
        acting_side(self.due, "exchange")
        partners = dict(self.made)
        if a not in partners:
            raise BadCard("mine", a)
        if b not in partners or b == a:
            raise BadCard("mine", b)
        partners[a], partners[b] = partners[b], partners[a]
        self.made = list(partners.items())
        self.after_left = self.after_left[1:]

    def won_count(self):
        """Return the number of won pairs that are bound or made."""
        return sum([self.cards.gain(m, t) for m, t in self.bound + self.made])
