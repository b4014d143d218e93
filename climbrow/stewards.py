"""A steward that plays a season for one side."""

from climbrow.aims import Aim, reserve_for
from climbrow.cards import as_pair
from climbrow.errors import OutOfTurn
from climbrow.seasons import Season, after_run, middle_value, season_value
from climbrow.spans import Span, span_of
from climbrow.words import other_side


def do_deed(season, deed):
    """Do the deed in the season."""
    name, cards = deed[0], deed[1:]
    if name == "bind":
        season.bind(cards[0], cards[1])
    elif name == "pass":
        season.pass_turn()
    elif name == "lay":
        season.lay(cards[0])
    elif name == "answer":
        season.answer(cards[0])
    elif name == "keep":
        season.keep()
    elif name == "take_back":
        season.take_back(cards[0])
    else:
        season.exchange(cards[0], cards[1])


def pair_deed(name, pairs):
    """Return the deed of that name for the first one of the pairs, or a pass if there is none."""
    if not pairs:
        return ("pass",)
    first, second = pairs[0]
    return name, first, second


class Steward:
    """Plays a season for one side, and tells of which result the side is sure."""

    def __init__(self, mine, theirs, before, takebacks, after, *, side, layer="mine"):
        self.side = side
        self._season = Season(mine, theirs, before, takebacks, after, layer=layer)
        self._aim = None
        self._look()

    def move(self):
        """Return the next deed of the steward's side."""
        due = self._season.due
        if due is None or due[0] != self.side:
            raise OutOfTurn()
        if due[1] == "bind":
            return pair_deed("bind", reserve_for(self.side, self._season.cards))
        if due[1] == "lay":
            return "lay", self._card_to_lay()
        if due[1] == "answer":
            return "answer", self._card_to_answer()
        if due[1] == "keep":
            return self._deed_to_end_round()
        return pair_deed("exchange", self._aim.way())

    def saw(self, deed):
        """Take note of a deed of the season, of either side."""
        do_deed(self._season, deed)
        self._look()

    def _look(self):
        """Take note of where the season is now."""
        season = self._season
        if self._aim is None and season.part != "before":
            self._aim = Aim(self.side, season)
        if self._aim is not None:
            self._aim.follow(season.made)
        self.assured = self._sure_result()

    def _sure_result(self):
        """Return the result of which the side is sure now."""
        season, aim = self._season, self._aim
        if season.part == "over":
            return season.won_count()
        if season.part == "before":
            return self._sure_before()
        start = self._sure_in_middle() if season.part == "middle" else self._sure_in_after()
        return after_run(aim.lo, aim.hi, start, season.after_left)[-1]

    def _sure_before(self):
        """Return the value of the season that is left."""
        season = self._season
        mine, theirs = season.cards.hands()
        won = season.won_count()
        span = span_of(mine, theirs) + Span(won, won)
        return season_value(span, season.before_left, season.takebacks_left, season.after_left, layer=season.layer)

    def _sure_in_middle(self):
        """Return the result of which the side is sure at the end of the middle part."""
        season, aim = self._season, self._aim
        if self.side == season.layer:
            done = len([pair for pair in aim.reserved if pair in season.made])
        else:
            # Each take-back of the other side has made the way longer by one exchange at most.
            done = len(aim.way())
        lo, hi = (aim.lo + done, aim.hi) if season.layer == "mine" else (aim.lo, aim.hi - done)
        return middle_value(lo, hi, season.takebacks_left, season.layer)

    def _sure_in_after(self):
        """Return the result of which the side is sure if no turn follows."""
        aim = self._aim
        return aim.hi - len(aim.way()) if self.side == "mine" else aim.lo + len(aim.way())

    def _reserved(self):
        """Return the reserved pairs as tuples of the own card and the other side's card."""
        return [as_pair(self.side, m, t) for m, t in self._aim.reserved]

    def _card_to_lay(self):
        """Return a card of no reserved pair whose cards are both in hand, or any card if there is none."""
        left = self._season.cards.left
        busy = [own for own, other in self._reserved() if other in left[other_side(self.side)]]
        free = [own for own in left[self.side] if own not in busy]
        return (free + left[self.side])[0]

    def _card_to_answer(self):
        """Return the partner of the laid card in the pairing in mind."""
        pairing, laid = self._aim.pairing, self._season.laid
        return pairing.index(laid) if self.side == "mine" else pairing[laid]

    def _deed_to_end_round(self):
        """Return the deed that makes a reserved pair with the answer, if there is one, and keeps otherwise."""
        season = self._season
        partners = [own for own, other in self._reserved()
                    if other == season.answered and own in season.cards.left[self.side]]
        if partners and season.takebacks_left > 0:
            return "take_back", partners[0]
        return ("keep",)
