"""A season kept in the plainest way (points 43 and 45), and what both sides can bring about by all plays."""

import collections
import random

import plain

State = collections.namedtuple("State", "before takebacks after bound made my_hand their_hand laid answered")
OTHER = {"mine": "theirs", "theirs": "mine"}
SIDE_OF = {"M": "mine", "T": "theirs"}


class PlainSeason:
    """The rules of one season; its states are tuples, and each deed gives a new one."""

    def __init__(self, mine, theirs, before, takebacks, after, layer):
        self.mine, self.theirs, self.layer = mine, theirs, layer
        cards = tuple(range(len(mine)))
        self.start = State(before, takebacks, after, (), (), cards, cards, None, None)
        self.known = {}

    def part(self, state):
        if state.before:
            return "before"
        if state.my_hand or state.their_hand or state.laid is not None:
            return "middle"
        return "after" if state.after else "over"

    def due(self, state):
        part = self.part(state)
        if part == "before":
            return SIDE_OF[state.before[0]], "bind"
        if part == "middle":
            if state.laid is None:
                return self.layer, "lay"
            return (OTHER[self.layer], "answer") if state.answered is None else (self.layer, "keep")
        return (SIDE_OF[state.after[0]], "exchange") if part == "after" else None

    def hand(self, state, side):
        return state.my_hand if side == "mine" else state.their_hand

    def deeds(self, state):
        """All deeds that are due and raise no error."""
        if self.due(state) is None:
            return []
        side, name = self.due(state)
        hand = self.hand(state, side)
        if name == "bind":
            return [("pass",)] + [("bind", m, t) for m in state.my_hand for t in state.their_hand]
        if name == "exchange":
            cards = [m for m, _ in state.made]
            return [("pass",)] + [("exchange", a, b) for a in cards for b in cards if a != b]
        if name == "keep":
            return [("keep",)] + [("take_back", index) for index in hand if state.takebacks]
        return [(name, index) for index in hand]

    def after(self, state, deed):
        """The state after a deed that raises no error."""
        name, cards = deed[0], deed[1:]
        if name == "pass":
            if state.before:
                return state._replace(before=state.before[1:])
            return state._replace(after=state.after[1:])
        if name == "bind":
            return state._replace(before=state.before[1:], bound=tuple(sorted(state.bound + (cards,))),
                                  my_hand=tuple(k for k in state.my_hand if k != cards[0]),
                                  their_hand=tuple(k for k in state.their_hand if k != cards[1]))
        if name == "exchange":
            partner = dict(state.made)
            swapped = {**partner, cards[0]: partner[cards[1]], cards[1]: partner[cards[0]]}
            return state._replace(after=state.after[1:], made=tuple(sorted(swapped.items())))
        if name in ("lay", "answer"):
            side = self.layer if name == "lay" else OTHER[self.layer]
            moved = self.with_hand(state, side, [k for k in self.hand(state, side) if k != cards[0]])
            return moved._replace(**{"laid" if name == "lay" else "answered": cards[0]})
        if name == "take_back":
            hand = [k for k in self.hand(state, self.layer) if k != cards[0]] + [state.laid]
            state = self.with_hand(state, self.layer, sorted(hand))
            state = state._replace(takebacks=state.takebacks - 1, laid=cards[0])
        pair = plain.pair_of(self.layer, state.laid, state.answered)
        return state._replace(made=tuple(sorted(state.made + (pair,))), laid=None, answered=None)

    def with_hand(self, state, side, hand):
        return state._replace(**{"my_hand" if side == "mine" else "their_hand": tuple(hand)})

    def won(self, state):
        return sum(plain.won(self.mine, self.theirs, m, t) for m, t in state.bound + state.made)

    def value(self, state):
        """The result if both sides play best, by trying all plays of both sides."""
        if state not in self.known:
            if self.due(state) is None:
                found = self.won(state)
            else:
                better = max if self.due(state)[0] == "mine" else min
                found = better(self.value(self.after(state, deed)) for deed in self.deeds(state))
            self.known[state] = found
        return self.known[state]


def all_letters(longest):
    """All words of at most so many letters."""
    return [word for n in range(longest + 1) for word in plain.all_words(n)]


def some_seasons(seed, count, longest, letters=3, takebacks=3):
    """Hands, words, take-backs and a layer for some seasons, always the same ones for the same seed."""
    source = random.Random(seed)
    found = []
    for mine, theirs in plain.some_hands(seed, count, longest, 0, longest):
        before, after = ("".join(source.choice("MT") for _ in range(source.randint(0, letters))) for _ in range(2))
        found.append((mine, theirs, before, source.randint(0, takebacks), after, source.choice(("mine", "theirs"))))
    return found
