"""The desk: duels under names, with deeds that can be undone."""

from climbrow.duels import Duel
from climbrow.errors import DuplicateName, OutOfTurn, UnknownName
from climbrow.guides import Guide
from climbrow.spans import Span, span_of
from climbrow.texts import parse_deed


def copied(deed):
    """Return the deed with hands of its own."""
    return tuple([list(part) if isinstance(part, list) else part for part in deed])


def play(duel, deed):
    """Do a deed in the duel."""
    act = deed[0]
    if act == "call":
        duel.call(deed[2])
    elif act == "lay":
        duel.lay(deed[2])
    elif act == "answer":
        duel.answer(deed[2])
    else:
        duel.draw(deed[2], deed[3])


def span_left(duel):
    """Return the span of the results that are still possible in the duel."""
    if duel.open_card is not None:
        raise OutOfTurn()
    my_left, their_left = duel.rest()
    left = span_of([duel.mine[m] for m in my_left], [duel.theirs[t] for t in their_left])
    return left + Span(duel.won, duel.won)


class Desk:
    """Keeps duels under names, and the deeds that have led to them."""

    def __init__(self):
        self._duels = {}
        self._done = []
        self._undone = []

    def __iter__(self):
        return iter(self._duels)

    def do(self, deed):
        """Do a deed."""
        self._perform(deed)
        self._undone = []

    def run(self, texts):
        """Do the deeds of the texts, all or none of them, and return their number."""
        # All is tried on a twin, so that this desk is as before if one of the texts raises an error.
        trial = self.twin()
        for text in texts:
            trial.do(parse_deed(text))
        self._duels = trial._duels
        self._done = trial._done
        self._undone = trial._undone
        return len(texts)

    def undo(self):
        """Take back the last deed that is in force, and return it."""
        if not self._done:
            raise OutOfTurn()
        deed = self._done[-1]
        self._set_out(self._done[:-1])
        self._undone.append(deed)
        return copied(deed)

    def redo(self):
        """Do the deed again that was undone last, and return it."""
        if not self._undone:
            raise OutOfTurn()
        deed = self._undone.pop()
        self._perform(deed)
        return copied(deed)

    def journal(self):
        """Return the deeds that are in force, in order."""
        return [copied(deed) for deed in self._done]

    def twin(self):
        """Return a desk with the same duels, the same journal, and the same deeds to redo."""
        other = Desk()
        other._set_out(self._done)
        other._undone = list(self._undone)
        return other

    def state(self, name):
        """Return the hands, the word, the pairs and the open card of the duel."""
        duel = self._duel(name)
        return list(duel.mine), list(duel.theirs), duel.word, list(duel.pairs), duel.open_card

    def span(self, name):
        """Return the span of the results that are still possible in the duel."""
        return span_left(self._duel(name))

    def value(self, name, letters, *, many="mine"):
        """Return the result to which both sides can hold in the duel from now on."""
        return self._duel(name).value(letters, many=many)

    def advice(self, name, *, many="mine"):
        """Return the card that the plan plays for the side that must act in the duel."""
        duel = self._duel(name)
        if duel.due is None:
            raise OutOfTurn()
        side, act = duel.due
        guide = Guide(duel.mine, duel.theirs, side, many=many)
        for m, t in duel:
            guide.saw(m, t)
        return guide.lay() if act == "lay" else guide.answer(duel.open_card[1])

    def whole_span(self):
        """Return the sum of the spans of all duels."""
        whole = Span(0, 0)
        for duel in self._duels.values():
            whole = whole + span_left(duel)
        return whole

    def _duel(self, name):
        """Return the duel of that name."""
        if name not in self._duels:
            raise UnknownName(name)
        return self._duels[name]

    def _perform(self, deed):
        """Do a deed, and leave the deeds that could be redone as they are."""
        act, name = deed[0], deed[1]
        if act == "open":
            self._begin(deed)
        elif act == "close":
            self._duel(name)
            del self._duels[name]
        else:
            play(self._duel(name), deed)
        self._done.append(copied(deed))

    def _begin(self, deed):
        """Begin a duel under a new name."""
        _, name, word, mine, theirs = deed
        if name in self._duels:
            raise DuplicateName(name)
        self._duels[name] = Duel(mine, theirs, word)

    def _set_out(self, deeds):
        """Do the deeds, in order, from a desk without duels on."""
        self._duels = {}
        self._done = []
        for deed in deeds:
            self._perform(deed)
