"""Hands unlike in size, played for some rounds only. Mine wishes for many won pairs."""

from climbrow.checks import check_place
from climbrow.errors import OutOfTurn
from climbrow.plans import answer_of_rest, lay_of_rest
from climbrow.remains import Remains
from climbrow.rows import value_of
from climbrow.words import check_word_within, other_side


def top_cards(hand, rounds):
    """Return the indexes of the greatest cards of the hand, one for each round, in ascending order."""
    check_place(rounds, 0, len(hand))
    order = sorted([(number, index) for index, number in enumerate(hand)])
    return sorted([index for _, index in order[len(hand) - rounds:]])


def top_numbers(hand, rounds):
    """Return the numbers of the greatest cards of the hand, one for each round."""
    return [hand[index] for index in top_cards(hand, rounds)]


def uneven_value(mine, theirs, word):
    """Return the result to which both sides can hold in a play of one round for each letter."""
    check_word_within(word, min(len(mine), len(theirs)))
    return value_of(top_numbers(mine, len(word)), top_numbers(theirs, len(word)), word)


def real_cards(mine, theirs, rounds):
    """Return the cards that matter: the greatest ones of each side, one for each round."""
    cards = Remains(mine, theirs)
    cards.left = {"mine": top_cards(mine, rounds), "theirs": top_cards(theirs, rounds)}
    return cards


class UnevenGuide:
    """Plays for one side with the real cards only, and reads each other card as a real one."""

    def __init__(self, mine, theirs, rounds, side):
        check_place(rounds, 0, min(len(mine), len(theirs)))
        self.won = 0
        self._side = side
        self._cards = Remains(mine, theirs)
        self._real = real_cards(mine, theirs, rounds)

    def lay(self):
        """Return the card that the plan lays."""
        self._check_rounds_left()
        return lay_of_rest(self._real, self._side, "mine")

    def answer(self, index):
        """Return the card with which the plan answers the other side's card."""
        laying = other_side(self._side)
        self._check_rounds_left()
        self._cards.check(laying, index)
        return answer_of_rest(self._real, laying, self._read(laying, index), "mine")

    def saw(self, m, t):
        """Take note of a pair that was made."""
        self._check_rounds_left()
        self._cards.check_pair(m, t)
        self._cards.drop_pair(m, t)
        self._real.drop_pair(self._read("mine", m), self._read("theirs", t))
        self.won = self.won + self._cards.gain(m, t)

    def promise(self, word):
        """Return the result to which the guide's side can hold under the word of the rounds that are left."""
        return self.won + self._real.value(word, "mine")

    def _check_rounds_left(self):
        if not self._real.left["mine"]:
            raise OutOfTurn()

    def _read(self, side, index):
        """Return the real card that the card counts as: itself, or the lowest real card of its side."""
        real = self._real.left[side]
        if index in real:
            return index
        return min([(number, other) for number, other in zip(self._real.hand(side), real)])[1]
