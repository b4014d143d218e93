"""Hands seen in part: their numbers are known only within bounds. Mine wishes for many won pairs."""

from climbrow.cards import wins
from climbrow.checks import check_card, check_hands
from climbrow.errors import BadBounds, OutOfTurn, Unreachable
from climbrow.plans import answer_of_rest, lay_of_rest
from climbrow.remains import Remains
from climbrow.rows import value_of


def check_number(lows, highs, index, number):
    """Raise BadBounds if the number is not within the bounds at the index."""
    if not lows[index] <= number <= highs[index]:
        raise BadBounds(index)


def check_bounds(mine, lows, highs):
    """Raise BadBounds if the bounds do not fit each other, then BadHands if they do not fit my hand."""
    if len(lows) != len(highs):
        raise BadBounds(min(len(lows), len(highs)))
    for index, (low, high) in enumerate(zip(lows, highs)):
        if low > high:
            raise BadBounds(index)
    check_hands(mine, lows)


def sure_value(mine, lows, highs, word):
    """Return the result to which mine can hold whatever their numbers are."""
    check_bounds(mine, lows, highs)
    return value_of(mine, highs, word)


def hoped_value(mine, lows, highs, word):
    """Return the result to which mine can hold if their numbers are as small as they can be."""
    check_bounds(mine, lows, highs)
    return value_of(mine, lows, word)


def hand_for(mine, lows, highs, word, wanted):
    """Return a hand within the bounds that has the wanted value under the word."""
    sure = sure_value(mine, lows, highs, word)
    hoped = hoped_value(mine, lows, highs, word)
    if not sure <= wanted <= hoped:
        raise Unreachable(wanted, sure, hoped)
    hand = list(highs)
    # Each number that is lowered adds 0 or 1 to the value, so no value up to the hoped one is passed over.
    for index, low in enumerate(lows):
        if value_of(mine, hand, word) == wanted:
            break
        hand[index] = low
    return hand


def look(mine, lows, highs, index, number):
    """Return the bounds in which the number at the index is known."""
    check_bounds(mine, lows, highs)
    check_card("theirs", lows, index)
    check_number(lows, highs, index, number)
    new_lows, new_highs = list(lows), list(highs)
    new_lows[index] = number
    new_highs[index] = number
    return new_lows, new_highs


class HiddenGuide:
    """Plays for mine as if each of their numbers were as great as it can be."""

    def __init__(self, mine, lows, highs):
        check_bounds(mine, lows, highs)
        self.won = 0
        self._mine = list(mine)
        self._lows = list(lows)
        self._highs = list(highs)
        self._cards = Remains(mine, highs)

    def lay(self):
        """Return the card that the plan lays."""
        if not self._cards.left["mine"]:
            raise OutOfTurn()
        return lay_of_rest(self._cards, "mine", "mine")

    def answer(self, index):
        """Return the card with which the plan answers their card."""
        self._cards.check("theirs", index)
        return answer_of_rest(self._cards, "theirs", index, "mine")

    def saw(self, m, t, number):
        """Take note of a pair that was made, and of the true number of their card."""
        self._cards.check_pair(m, t)
        check_number(self._lows, self._highs, t, number)
        self._cards.drop_pair(m, t)
        self.won = self.won + int(wins(self._mine[m], number))

    def promise(self, word):
        """Return the result to which mine can hold under the word of the rounds that are left."""
        return self.won + self._cards.value(word, "mine")
