"""A guide that brings about exactly a wanted result for mine."""

from climbrow.cards import around, next_down, next_up, side_order
from climbrow.errors import OutOfTurn, Unreachable
from climbrow.levels import row_after, row_of, side_levels
from climbrow.remains import Remains
from climbrow.turns import can_force, exact_range


def row_without(levels, index):
    """Return the row from which the level of one card is removed."""
    return sorted(levels[:index] + levels[index + 1:])


def lay_keeps(mine, theirs, index, word, needed):
    """Return True if mine can still bring about the needed result, whatever answers my card."""
    by_mine = word[:-1].count("M")
    by_theirs = word[:-1].count("T")
    levels = side_levels(mine, theirs, "theirs")
    after_up = row_without(levels, next_up(mine, theirs, "mine", index))
    after_down = row_without(levels, next_down(mine, theirs, "mine", index))
    return (after_up[by_mine - 1] + by_theirs + 1 >= needed
            and after_down[by_theirs] + by_mine + 1 <= needed)


def answer_keeps(mine, theirs, m, t, word, needed):
    """Return True if mine can still bring about the needed result after the pair."""
    low, high = exact_range(row_after(mine, theirs, m, t), word[1:])
    return low <= needed <= high


class ExactGuide:
    """Plays for mine and brings about exactly the wanted result under a steady word."""

    def __init__(self, mine, theirs, word, wanted):
        row = row_of(mine, theirs)
        if not can_force(row, word, wanted):
            low, high = exact_range(row, word)
            raise Unreachable(wanted, low, high)
        self.needed = wanted
        self.word = word
        self._cards = Remains(mine, theirs)

    def lay(self):
        """Return the card that the guide lays."""
        if self.word[:1] != "M":
            raise OutOfTurn()
        left_mine, left_theirs = self._cards.hands()
        order = side_order(left_mine, left_theirs, "mine")
        # With one card left there is nothing to choose, and no row of later rounds to look at.
        keeping = [m for m in order if len(order) > 1
                   and lay_keeps(left_mine, left_theirs, m, self.word, self.needed)]
        return self._cards.left["mine"][(keeping + order)[0]]

    def answer(self, index):
        """Return the card with which the guide answers their card."""
        if self.word[:1] != "T":
            raise OutOfTurn()
        self._cards.check("theirs", index)
        left_mine, left_theirs = self._cards.hands()
        t = self._cards.position("theirs", index)
        order = around(left_mine, left_theirs, "theirs", t)
        keeping = [m for m in order if answer_keeps(left_mine, left_theirs, m, t, self.word, self.needed)]
        return self._cards.left["mine"][(keeping + order)[0]]

    def saw(self, m, t):
        """Take note of the pair that was made in this round."""
        self._cards.check_pair(m, t)
        self._cards.drop_pair(m, t)
        self.needed = self.needed - self._cards.gain(m, t)
        self.word = self.word[1:]
